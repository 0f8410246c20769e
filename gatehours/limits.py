"""The ranges of the values that a planner holds, and of the numbers in a given schedule.

No value that is handed in lies below 0, so only `per_gate` has a lower end to ask for.
"""

MOST_PER_GATE = 9
MOST_GATES = 6
MOST_WAIT = 6
MOST_ARRIVALS = 40
MOST_MINUTES = 10
MOST_IN_SCHEDULE = 9


def per_gate_allowed(people):
    return people >= 1 and people <= MOST_PER_GATE


def max_gates_allowed(gates):
    return gates <= MOST_GATES


def max_wait_allowed(minutes):
    return minutes <= MOST_WAIT


def arrivals_allowed(people):
    return people <= MOST_ARRIVALS


def gates_allowed(gates):
    """Whether a given schedule may have the number in it; `max_gates` is another question."""
    return gates <= MOST_IN_SCHEDULE
