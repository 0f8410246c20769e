"""The way in: a list of calls as whole numbers, answered as whole numbers."""

from gatehours.changes import (
    add_minute,
    remove_last_minute,
    set_arrivals,
    set_max_gates,
    set_max_wait,
    set_per_gate,
)
from gatehours.evaluation import admitted, is_feasible, longest_wait, queue_lengths
from gatehours.queries import (
    best_schedule,
    get_state,
    infeasible_interval,
    is_possible,
    list_arrivals,
    min_gate_minutes,
    total_arrivals,
)
from gatehours.refusals import no_planner
from gatehours.state import Session
from gatehours.what_if import (
    gate_minutes_if_arrivals,
    gate_minutes_if_max_wait,
    max_arrivals,
    min_max_gates,
    min_max_wait,
)

# How many whole numbers stand behind the number of each call; the calls that evaluate have a row there instead.
ARGUMENT_COUNTS = (3, 1, 2, 0, 1, 1, 1, 0, 0, 0, 0, 0, 0, 0, 0, 0, 0, 0, 2, 1, 1, 2, 0)
FIRST_QUERY = 7
FIRST_EVALUATION = 12
FIRST_WHAT_IF = 16
FIRST_TOTAL = 21


def change(planner, number, arguments):
    if number == 1:
        return add_minute(planner, arguments[0])
    if number == 2:
        return set_arrivals(planner, arguments[0], arguments[1])
    if number == 3:
        return remove_last_minute(planner)
    if number == 4:
        return set_per_gate(planner, arguments[0])
    if number == 5:
        return set_max_gates(planner, arguments[0])
    return set_max_wait(planner, arguments[0])


def query(planner, number):
    if number == 7:
        return list_arrivals(planner)
    if number == 8:
        return best_schedule(planner)
    if number == 9:
        return min_gate_minutes(planner)
    if number == 10:
        return is_possible(planner)
    return infeasible_interval(planner)


def evaluate(planner, number, schedule):
    if number == 12:
        return is_feasible(planner, schedule)
    if number == 13:
        return admitted(planner, schedule)
    if number == 14:
        return queue_lengths(planner, schedule)
    return longest_wait(planner, schedule)


def ask_what_if(planner, number, arguments):
    if number == 16:
        return min_max_gates(planner)
    if number == 17:
        return min_max_wait(planner)
    if number == 18:
        return gate_minutes_if_arrivals(planner, arguments[0], arguments[1])
    if number == 19:
        return gate_minutes_if_max_wait(planner, arguments[0])
    return max_arrivals(planner, arguments[0])


def add_up(planner, number, arguments):
    if number == 21:
        return total_arrivals(planner, arguments[0], arguments[1])
    return get_state(planner)


def perform(session, number, arguments):
    if number == 0:
        return session.create(arguments[0], arguments[1], arguments[2])
    if session.planner is None:
        return no_planner()
    if number < FIRST_QUERY:
        return change(session.planner, number, arguments)
    if number < FIRST_EVALUATION:
        return query(session.planner, number)
    if number < FIRST_WHAT_IF:
        return evaluate(session.planner, number, arguments)
    if number < FIRST_TOTAL:
        return ask_what_if(session.planner, number, arguments)
    return add_up(session.planner, number, arguments)


def has_row(number):
    return number >= FIRST_EVALUATION and number < FIRST_WHAT_IF


def arguments_start(calls, place):
    """Where the arguments of the call at the place begin: a row's own count stands ahead of it."""
    if has_row(calls[place]):
        return place + 2
    return place + 1


def argument_count(calls, place):
    if has_row(calls[place]):
        return calls[place + 1]
    return ARGUMENT_COUNTS[calls[place]]


def answers(calls):
    """The answers of one session, each behind its count of numbers."""
    session = Session()
    result = []
    place = 0
    while place < len(calls):
        start = arguments_start(calls, place)
        after = start + argument_count(calls, place)
        numbers = perform(session, calls[place], calls[start:after])
        result.append(len(numbers))
        result.extend(numbers)
        place = after
    return result
