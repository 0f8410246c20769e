"""Which schedules a planner has: the interval that rules them all out, and the best one."""


def arrivals_between(planner, first, last):
    return sum(planner.arrivals[first:last + 1])


def is_infeasible(planner, first, last):
    """Whether more people arrive in the interval than all gates admit in time."""
    minutes = last + planner.max_wait + 1 - first
    return arrivals_between(planner, first, last) > planner.per_gate * planner.max_gates * minutes


def earliest_infeasible_interval(planner):
    """The first and the last minute of the interval that ends earliest, then begins earliest; None if there is none."""
    for last in range(len(planner.arrivals)):
        for first in range(last + 1):
            if is_infeasible(planner, first, last):
                return (first, last)
    return None


def has_feasible_schedule(planner):
    return earliest_infeasible_interval(planner) is None


def schedule_length(planner):
    """How many minutes a schedule has: without arrivals nobody waits, so none at all."""
    if len(planner.arrivals) == 0:
        return 0
    return len(planner.arrivals) + planner.max_wait


def gate_minutes_needed(planner, first, last):
    """How many gate-minutes the arrivals of the interval take; a started one counts whole."""
    people = arrivals_between(planner, first, last)
    return (people + planner.per_gate - 1) // planner.per_gate


def fewest_gates_next(planner, gates):
    """The fewest gates for the minute behind `gates` with which the minutes behind it can still do the rest.

    They do most with all their gates, so what an interval needs beyond that has to come from this minute.
    An interval that begins later gets nothing from it, and one whose time is over has what it needs.
    """
    minute = len(gates)
    fewest = 0
    for last in range(max(0, minute - planner.max_wait), len(planner.arrivals)):
        most_later = planner.max_gates * (last + planner.max_wait - minute)
        for first in range(min(minute, last) + 1):
            missing = gate_minutes_needed(planner, first, last) - sum(gates[first:])
            fewest = max(fewest, missing - most_later)
    return fewest


def find_best_schedule(planner):
    """The best schedule of a planner that has a feasible one.

    Taking the fewest gates in each minute in turn keeps every prefix sum, the whole sum too, as small as it can be.
    """
    gates = []
    while len(gates) < schedule_length(planner):
        gates.append(fewest_gates_next(planner, gates))
    return gates
