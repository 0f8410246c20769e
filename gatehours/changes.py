"""The calls that change a planner: each asks for its errors first, and changes nothing where one applies."""

from gatehours.limits import MOST_MINUTES, arrivals_allowed, max_gates_allowed, max_wait_allowed, per_gate_allowed
from gatehours.refusals import no_minutes, no_such_minute, out_of_range, too_many_minutes


def add_minute(planner, arrivals):
    if not arrivals_allowed(arrivals):
        return out_of_range()
    if len(planner.arrivals) >= MOST_MINUTES:
        return too_many_minutes()
    planner.arrivals.append(arrivals)
    return [len(planner.arrivals) - 1]


def set_arrivals(planner, minute, arrivals):
    if not planner.has_minute(minute):
        return no_such_minute()
    if not arrivals_allowed(arrivals):
        return out_of_range()
    previous = planner.arrivals[minute]
    planner.arrivals[minute] = arrivals
    return [previous]


def remove_last_minute(planner):
    if len(planner.arrivals) == 0:
        return no_minutes()
    planner.arrivals.pop()
    return [len(planner.arrivals)]


def set_per_gate(planner, people):
    if not per_gate_allowed(people):
        return out_of_range()
    previous = planner.per_gate
    planner.per_gate = people
    return [previous]


def set_max_gates(planner, gates):
    if not max_gates_allowed(gates):
        return out_of_range()
    previous = planner.max_gates
    planner.max_gates = gates
    return [previous]


def set_max_wait(planner, minutes):
    if not max_wait_allowed(minutes):
        return out_of_range()
    previous = planner.max_wait
    planner.max_wait = minutes
    return [previous]
