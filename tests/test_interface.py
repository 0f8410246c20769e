"""The form of what goes in and comes out, and that nothing is kept between two lists of calls."""

import unittest

from gatehours.planner import answers
from tests.helper import LARGEST, ask, building, flat, parted


class Form(unittest.TestCase):
    def test_numbers_in_numbers_out(self):
        calls = [0, 2, 2, 1, 1, 5, 1, 0, 7, 8, 9, 10, 11, 2, 0, 4, 3, 4, 3, 5, 6, 6, 0, 1, 41]
        expected = [1, 0, 1, 0, 1, 1, 3, 2, 5, 0, 4, 3, 1, 2, 0, 1, 3, 1, 1, 1, -33]
        expected += [1, 5, 1, 1, 1, 2, 1, 2, 1, 1, 1, -22]
        self.assertEqual(answers(calls), expected)

    def test_a_refusal_is_its_code_alone(self):
        self.assertEqual(answers([8]), [1, -11])
        self.assertEqual(answers([0, 1, 0, 0, 1, 1, 8]), [1, 0, 1, 0, 1, -33])

    def test_an_empty_list_is_a_count_of_0(self):
        self.assertEqual(answers([0, 1, 1, 3, 7, 8]), [1, 0, 1, 0, 1, 0])

    def test_only_whole_numbers_are_answered(self):
        possible = building([5, 0], 2, 2, 1) + [("is_possible",), ("best_schedule",), ("infeasible_interval",)]
        impossible = building([5, 0], 2, 0, 1) + [("is_possible",), ("best_schedule",), ("infeasible_interval",)]
        result = answers(flat(possible + impossible))
        self.assertIs(type(result), list)
        self.assertEqual({type(number) for number in result}, {int})

    def test_the_list_handed_in_stays_the_same(self):
        calls = flat(building([5, 0], 2, 2, 1) + [("set_arrivals", 1, 7), ("best_schedule",), ("list_arrivals",)])
        before = list(calls)
        answers(calls)
        self.assertEqual(calls, before)


class NothingKept(unittest.TestCase):
    def test_a_second_time_begins_without_a_planner(self):
        self.assertEqual(ask(*building([5], 2, 2, 1), ("list_arrivals",))[-1], [1, 5])
        self.assertEqual(ask(("list_arrivals",), ("add_minute", 5)), [[-11], [-11]])

    def test_the_same_list_is_answered_the_same_again(self):
        calls = flat(building([5, 0], 2, 2, 1) + [("set_arrivals", 0, 3), ("set_max_wait", 0), ("list_arrivals",)])
        first = answers(calls)
        kept = list(first)
        self.assertEqual(answers(calls), first)
        self.assertEqual(first, kept)


class ManyCalls(unittest.TestCase):
    def test_256_best_schedules_of_a_full_planner(self):
        building_calls = building([40] * 10, 9, 6, 0)
        calls = building_calls + [("best_schedule",)] * (256 - len(building_calls))
        found = ask(*calls)
        self.assertEqual(len(found), 256)
        self.assertEqual(found[:11], [[0]] + [[minute] for minute in range(10)])
        self.assertEqual(found[11:], [[10] + [5] * 10] * 245)

    def test_256_changes(self):
        calls = [("create", 1, 6, 6), ("add_minute", 0)] + [("set_arrivals", 0, k % 41) for k in range(254)]
        expected = [[0], [0], [0]] + [[k % 41] for k in range(253)]
        self.assertEqual(ask(*calls), expected)

    def test_256_calls_without_a_planner(self):
        self.assertEqual(ask(*[("create", LARGEST, LARGEST, LARGEST), ("is_possible",)] * 128), [[-22], [-11]] * 128)

    def test_256_planners(self):
        self.assertEqual(parted(answers([0, 9, 6, 6] * 256)), [[0]] * 256)
