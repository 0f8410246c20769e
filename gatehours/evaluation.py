"""The calls that evaluate a given schedule; each refuses a list that doesn't have the form of one."""

from gatehours.admission import longest_waiting_time, people_admitted, people_waiting
from gatehours.limits import gates_allowed
from gatehours.queries import counted
from gatehours.refusals import none_found, out_of_range
from gatehours.schedules import schedule_length


def has_form(planner, schedule):
    """Whether the list has the form of a schedule, with more gates than `max_gates` too."""
    return len(schedule) == schedule_length(planner) and all([gates_allowed(gates) for gates in schedule])


def is_feasible(planner, schedule):
    if not has_form(planner, schedule):
        return out_of_range()
    longest = longest_waiting_time(planner, schedule)
    if longest is None or longest > planner.max_wait or max(schedule, default=0) > planner.max_gates:
        return [0]
    return [1]


def admitted(planner, schedule):
    if not has_form(planner, schedule):
        return out_of_range()
    return counted(people_admitted(planner, schedule))


def queue_lengths(planner, schedule):
    if not has_form(planner, schedule):
        return out_of_range()
    return counted(people_waiting(planner, schedule))


def longest_wait(planner, schedule):
    if not has_form(planner, schedule):
        return out_of_range()
    longest = longest_waiting_time(planner, schedule)
    if longest is None:
        return none_found()
    return [longest]
