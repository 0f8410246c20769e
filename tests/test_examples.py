"""The document's examples, answer by answer."""

import re
import unittest

from tests.helper import ask

FIVE_PEOPLE = """
create(2, 2, 1)           -> 0
add_minute(5)             -> 0
add_minute(0)             -> 1
best_schedule()           -> 3, 1, 2, 0
min_gate_minutes()        -> 3
longest_wait([1, 2, 0])   -> 1
admitted([1, 2, 0])       -> 3, 2, 3, 0
queue_lengths([1, 2, 0])  -> 3, 3, 0, 0
max_arrivals(0)           -> 8
min_max_gates()           -> 2
infeasible_interval()     -> -33
"""

NO_FEASIBLE_SCHEDULE = """
create(1, 1, 0)             -> 0
add_minute(3)               -> 0
is_possible()               -> 0
infeasible_interval()       -> 0, 0, 3
min_max_wait()              -> 2
gate_minutes_if_max_wait(2) -> 3
best_schedule()             -> -33
longest_wait([1])           -> -33
"""

ERRORS = """
create(0, 1, 0)       -> -22
remove_last_minute()  -> -11
create(1, 1, 0)       -> 0
remove_last_minute()  -> -6
set_arrivals(0, 5)    -> -2
add_minute(41)        -> -22
is_feasible([0])      -> -22
is_feasible([])       -> 1
"""


def whole_numbers(text):
    return [int(number) for number in re.findall(r"-?\d+", text)]


def read(block):
    """The block's calls and their answers."""
    calls = []
    expected = []
    for line in block.strip().splitlines():
        call, answered = line.split("->")
        name, arguments = call.split("(")
        numbers = whole_numbers(arguments)
        calls.append((name, numbers) if "[" in arguments else (name, *numbers))
        expected.append(whole_numbers(answered))
    return calls, expected


class Examples(unittest.TestCase):
    def check(self, block, count):
        calls, expected = read(block)
        self.assertEqual(len(calls), count)
        self.assertEqual(ask(*calls), expected)

    def test_five_people(self):
        self.check(FIVE_PEOPLE, 11)

    def test_no_feasible_schedule(self):
        self.check(NO_FEASIBLE_SCHEDULE, 8)

    def test_errors(self):
        self.check(ERRORS, 8)
