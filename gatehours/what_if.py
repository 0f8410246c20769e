"""The calls that ask what a planner with one other value would answer.

The other value is given to a planner of its own, so that the one that is asked stays as it is.
"""

from gatehours.limits import MOST_ARRIVALS, MOST_GATES, MOST_WAIT, arrivals_allowed, max_wait_allowed
from gatehours.queries import min_gate_minutes
from gatehours.refusals import no_such_minute, none_found, out_of_range
from gatehours.schedules import has_feasible_schedule
from gatehours.state import Planner


def another_like(planner):
    other = Planner(planner.per_gate, planner.max_gates, planner.max_wait)
    other.arrivals = list(planner.arrivals)
    return other


def with_max_gates(planner, gates):
    other = another_like(planner)
    other.max_gates = gates
    return other


def with_max_wait(planner, minutes):
    other = another_like(planner)
    other.max_wait = minutes
    return other


def with_arrivals(planner, minute, people):
    other = another_like(planner)
    other.arrivals[minute] = people
    return other


def min_max_gates(planner):
    for gates in range(MOST_GATES + 1):
        if has_feasible_schedule(with_max_gates(planner, gates)):
            return [gates]
    return none_found()


def min_max_wait(planner):
    for minutes in range(MOST_WAIT + 1):
        if has_feasible_schedule(with_max_wait(planner, minutes)):
            return [minutes]
    return none_found()


def gate_minutes_if_arrivals(planner, minute, people):
    if not planner.has_minute(minute):
        return no_such_minute()
    if not arrivals_allowed(people):
        return out_of_range()
    return min_gate_minutes(with_arrivals(planner, minute, people))


def gate_minutes_if_max_wait(planner, minutes):
    if not max_wait_allowed(minutes):
        return out_of_range()
    return min_gate_minutes(with_max_wait(planner, minutes))


def max_arrivals(planner, minute):
    if not planner.has_minute(minute):
        return no_such_minute()
    if not has_feasible_schedule(planner):
        return none_found()
    # Fewer people never make a schedule infeasible, so the first number that is too many ends the search.
    most = planner.arrivals[minute]
    while most < MOST_ARRIVALS and has_feasible_schedule(with_arrivals(planner, minute, most + 1)):
        most = most + 1
    return [most]
