"""The form of what goes in and comes out, and that nothing is kept between two lists of calls."""

import unittest

from gatehours.planner import answers
from tests.helper import LARGEST, LARGEST_IN_ROW, MOST_CALLS, NUMBERS, ask, building, flat, parted

EVERY_QUERY = [
    ("list_arrivals",), ("best_schedule",), ("min_gate_minutes",), ("is_possible",), ("infeasible_interval",),
    ("is_feasible", [1, 2, 0]), ("admitted", [1, 2, 0]), ("queue_lengths", [1, 2, 0]), ("longest_wait", [1, 2, 0]),
    ("min_max_gates",), ("min_max_wait",), ("gate_minutes_if_arrivals", 0, 3), ("gate_minutes_if_max_wait", 2),
    ("max_arrivals", 0), ("total_arrivals", 0, 1), ("get_state",),
]


class Form(unittest.TestCase):
    def test_numbers_in_numbers_out(self):
        calls = [0, 2, 2, 1, 1, 5, 1, 0, 7, 8, 9, 10, 11, 2, 0, 4, 3, 4, 3, 5, 6, 6, 0, 1, 41]
        expected = [1, 0, 1, 0, 1, 1, 3, 2, 5, 0, 4, 3, 1, 2, 0, 1, 3, 1, 1, 1, -33]
        expected += [1, 5, 1, 1, 1, 2, 1, 2, 1, 1, 1, -22]
        self.assertEqual(answers(calls), expected)

    def test_a_refusal_is_its_code_alone(self):
        self.assertEqual(answers([8]), [1, -11])
        self.assertEqual(answers([0, 1, 0, 0, 1, 1, 8]), [1, 0, 1, 0, 1, -33])

    def test_an_empty_list_is_a_count_of_0(self):
        self.assertEqual(answers([0, 1, 1, 3, 7, 8]), [1, 0, 1, 0, 1, 0])
        self.assertEqual(answers([0, 1, 1, 3, 12, 0, 13, 0, 14, 0, 15, 0]), [1, 0, 1, 1, 1, 0, 1, 0, 1, 0])

    def test_a_row_has_its_count_before_it(self):
        calls = [0, 2, 2, 1, 1, 5, 1, 0, 12, 3, 1, 2, 0, 13, 3, 1, 2, 0, 14, 3, 1, 2, 0, 15, 3, 1, 2, 0, 22]
        expected = [1, 0, 1, 0, 1, 1, 1, 1, 4, 3, 2, 3, 0, 4, 3, 3, 0, 0, 1, 1, 5, 2, 2, 2, 1, 5]
        self.assertEqual(answers(calls), expected)

    def test_calls_without_a_row(self):
        calls = [0, 2, 2, 1, 1, 5, 1, 0, 16, 17, 18, 0, 8, 19, 2, 20, 0, 21, 0, 1, 22, 18, 2, 0, 19, 7, 20, 2, 21, 0, 2]
        expected = [1, 0, 1, 0, 1, 1, 1, 2, 1, 1, 1, 4, 1, 3, 1, 8, 1, 5, 5, 2, 2, 2, 1, 5, 1, -2, 1, -22, 1, -2, 1, -2]
        self.assertEqual(answers(calls), expected)

    def test_the_numbers_of_a_row_are_never_calls(self):
        # Read as calls, each of these rows would make a planner or add a minute to it.
        for number in (12, 13, 14, 15):
            for row in ([0, 1, 1, 1], [1, 5], [1] * 20, [LARGEST_IN_ROW] * 20, [0] * 19, [12, 0], [number]):
                self.assertEqual(answers([number, len(row), *row, 22]), [1, -11, 1, -11])
                found = answers([0, 1, 1, 1, number, len(row), *row, 22])
                self.assertEqual(found, [1, 0, 1, -22, 5, 0, 1, 1, 1, 0])
            self.assertEqual(answers([number, 0, 22, number, 0]), [1, -11, 1, -11, 1, -11])

    def test_only_whole_numbers_are_answered(self):
        result = answers(flat(building([5, 0], 2, 2, 1) + EVERY_QUERY + building([5, 0], 2, 0, 1) + EVERY_QUERY))
        self.assertIs(type(result), list)
        self.assertEqual({type(number) for number in result}, {int})

    def test_the_list_handed_in_stays_the_same(self):
        calls = flat(building([5, 0], 2, 2, 1) + EVERY_QUERY + [("set_arrivals", 1, 7)] + EVERY_QUERY)
        before = list(calls)
        answers(calls)
        self.assertEqual(calls, before)


class NothingKept(unittest.TestCase):
    def test_a_second_time_begins_without_a_planner(self):
        self.assertEqual(ask(*building([5], 2, 2, 1), ("list_arrivals",))[-1], [1, 5])
        self.assertEqual(ask(("list_arrivals",), ("add_minute", 5)), [[-11], [-11]])

    def test_nothing_but_create_is_answered_a_second_time(self):
        self.assertEqual(ask(*building([5, 0], 2, 2, 1), ("get_state",))[-1], [2, 2, 2, 1, 5])
        self.assertEqual(ask(*EVERY_QUERY), [[-11]] * len(EVERY_QUERY))
        self.assertEqual(ask(("create", 1, 1, 0), ("get_state",)), [[0], [0, 1, 1, 0, 0]])

    def test_the_same_list_is_answered_the_same_again(self):
        calls = flat(building([5, 0], 2, 2, 1) + [("set_arrivals", 0, 3), ("set_max_wait", 2)] + EVERY_QUERY)
        first = answers(calls)
        kept = list(first)
        self.assertEqual(answers(calls), first)
        self.assertEqual(first, kept)


class ManyCalls(unittest.TestCase):
    def test_256_calls_of_every_kind(self):
        changes = [
            ("add_minute", 9), ("set_arrivals", 0, 6), ("set_per_gate", 3), ("set_max_gates", 3), ("set_max_wait", 2),
            ("remove_last_minute",), ("set_arrivals", 0, 5), ("set_per_gate", 2), ("set_max_gates", 2),
            ("set_max_wait", 1),
        ]
        opening = building([5, 0], 2, 2, 1)
        turn = EVERY_QUERY + changes
        turns = (MOST_CALLS - len(opening)) // len(turn)
        calls = opening + turn * turns
        calls += [("get_state",)] * (MOST_CALLS - len(calls))
        self.assertEqual({call[0] for call in calls}, set(NUMBERS))
        found = ask(*calls)
        self.assertEqual(found[:len(opening)], [[0], [0], [1]])
        self.assertEqual(found[len(opening):len(opening) + len(turn)], [
            [2, 5, 0], [3, 1, 2, 0], [3], [1], [-33],
            [1], [3, 2, 3, 0], [3, 3, 0, 0], [1],
            [2], [1], [2], [3], [8], [5], [2, 2, 2, 1, 5],
            [2], [5], [2], [2], [1], [2], [6], [3], [3], [2],
        ])
        self.assertEqual(found[len(opening):len(opening) + len(turn) * turns], found[len(opening):][:len(turn)] * turns)
        self.assertEqual(found[-1], [2, 2, 2, 1, 5])

    def test_256_best_schedules_of_a_full_planner(self):
        building_calls = building([40] * 10, 9, 6, 0)
        calls = building_calls + [("best_schedule",)] * (256 - len(building_calls))
        found = ask(*calls)
        self.assertEqual(len(found), 256)
        self.assertEqual(found[:11], [[0]] + [[minute] for minute in range(10)])
        self.assertEqual(found[11:], [[10] + [5] * 10] * 245)

    def test_256_changes(self):
        calls = [("create", 1, 6, 6), ("add_minute", 0)] + [("set_arrivals", 0, k % 41) for k in range(254)]
        expected = [[0], [0], [0]] + [[k % 41] for k in range(253)]
        self.assertEqual(ask(*calls), expected)

    def test_256_calls_without_a_planner(self):
        self.assertEqual(ask(*[("create", LARGEST, LARGEST, LARGEST), ("is_possible",)] * 128), [[-22], [-11]] * 128)

    def test_256_planners(self):
        self.assertEqual(parted(answers([0, 9, 6, 6] * 256)), [[0]] * 256)
