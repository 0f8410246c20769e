"""The calls that answer from a planner as it is, and leave it so."""

from gatehours.refusals import no_such_minute, none_found
from gatehours.schedules import (
    arrivals_between,
    earliest_infeasible_interval,
    find_best_schedule,
    has_feasible_schedule,
)


def counted(numbers):
    return [len(numbers)] + numbers


def list_arrivals(planner):
    return counted(planner.arrivals)


def best_schedule(planner):
    if not has_feasible_schedule(planner):
        return none_found()
    return counted(find_best_schedule(planner))


def min_gate_minutes(planner):
    if not has_feasible_schedule(planner):
        return none_found()
    return [sum(find_best_schedule(planner))]


def is_possible(planner):
    return [1 if has_feasible_schedule(planner) else 0]


def infeasible_interval(planner):
    interval = earliest_infeasible_interval(planner)
    if interval is None:
        return none_found()
    return [interval[0], interval[1], arrivals_between(planner, interval[0], interval[1])]


def total_arrivals(planner, first, last):
    if not planner.has_minute(first) or not planner.has_minute(last):
        return no_such_minute()
    return [arrivals_between(planner, first, last)]


def get_state(planner):
    return [len(planner.arrivals), planner.per_gate, planner.max_gates, planner.max_wait, sum(planner.arrivals)]
