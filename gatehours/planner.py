"""The way in: a list of calls as whole numbers, answered as whole numbers."""

from gatehours.changes import (
    add_minute,
    remove_last_minute,
    set_arrivals,
    set_max_gates,
    set_max_wait,
    set_per_gate,
)
from gatehours.queries import best_schedule, infeasible_interval, is_possible, list_arrivals, min_gate_minutes
from gatehours.refusals import no_planner
from gatehours.state import Session

ARGUMENT_COUNTS = (3, 1, 2, 0, 1, 1, 1, 0, 0, 0, 0, 0)
FIRST_QUERY = 7


def change(planner, number, arguments):
    if number == 1:
        return add_minute(planner, arguments[0])
    if number == 2:
        return set_arrivals(planner, arguments[0], arguments[1])
    if number == 3:
        return remove_last_minute(planner)
    if number == 4:
        return set_per_gate(planner, arguments[0])
    if number == 5:
        return set_max_gates(planner, arguments[0])
    return set_max_wait(planner, arguments[0])


def query(planner, number):
    if number == 7:
        return list_arrivals(planner)
    if number == 8:
        return best_schedule(planner)
    if number == 9:
        return min_gate_minutes(planner)
    if number == 10:
        return is_possible(planner)
    return infeasible_interval(planner)


def perform(session, number, arguments):
    if number == 0:
        return session.create(arguments[0], arguments[1], arguments[2])
    if session.planner is None:
        return no_planner()
    if number < FIRST_QUERY:
        return change(session.planner, number, arguments)
    return query(session.planner, number)


def argument_count(number):
    if number >= len(ARGUMENT_COUNTS):
        raise NotImplementedError(f"there is no call {number}")
    return ARGUMENT_COUNTS[number]


def answers(calls):
    """The answers of one session, each behind its count of numbers."""
    session = Session()
    result = []
    place = 0
    while place < len(calls):
        number = calls[place]
        after = place + 1 + argument_count(number)
        numbers = perform(session, number, calls[place + 1:after])
        result.append(len(numbers))
        result.extend(numbers)
        place = after
    return result
