"""The calls that build and change a planner: ordinary inputs, the ends of each range, and each error."""

import unittest

from tests.helper import LARGEST, LARGEST_IN_ROW, PROBES, PlannerCase, ask, ask_planner, building, probed

SMALL = ([5, 0, 3], 2, 3, 1)
EMPTY = ([], 2, 3, 1)
FULL = ([0, 40, 1, 39, 2, 38, 3, 37, 4, 36], 9, 6, 6)


class Create(PlannerCase):
    def test_ends_of_the_ranges(self):
        for per_gate in (1, 5, 9):
            for max_gates in (0, 3, 6):
                for max_wait in (0, 2, 6):
                    plan = ([], per_gate, max_gates, max_wait)
                    self.assertEqual(ask_planner(plan, *PROBES), probed(*plan))
                    self.assertEqual(ask(("create", per_gate, max_gates, max_wait)), [[0]])

    def test_out_of_range(self):
        for arguments in (
            (0, 1, 1), (10, 1, 1), (LARGEST, 1, 1),
            (1, 7, 1), (1, LARGEST, 1),
            (1, 1, 7), (1, 1, LARGEST),
            (0, 7, 7), (10, 7, 7), (LARGEST, LARGEST, LARGEST),
        ):
            self.assertEqual(ask(("create", *arguments), ("list_arrivals",)), [[-22], [-11]], arguments)
            for plan in (SMALL, EMPTY, FULL):
                self.check_refusal(plan, ("create", *arguments), -22)

    def test_replaces_the_planner_and_its_minutes(self):
        for plan in (SMALL, EMPTY, FULL):
            self.check_change(plan, ("create", 4, 5, 6), [0], ([], 4, 5, 6))

    def test_minutes_are_numbered_from_0_again(self):
        self.assertEqual(ask_planner(SMALL, ("create", 1, 1, 1), ("add_minute", 9)), [[0], [0]])


class NoPlanner(unittest.TestCase):
    CALLS = (
        ("add_minute", 5), ("add_minute", 41), ("add_minute", LARGEST),
        ("set_arrivals", 0, 5), ("set_arrivals", 0, 41), ("set_arrivals", LARGEST, LARGEST),
        ("remove_last_minute",),
        ("set_per_gate", 1), ("set_per_gate", 0), ("set_per_gate", LARGEST),
        ("set_max_gates", 0), ("set_max_gates", 7), ("set_max_gates", LARGEST),
        ("set_max_wait", 0), ("set_max_wait", 7), ("set_max_wait", LARGEST),
        ("list_arrivals",), ("best_schedule",), ("min_gate_minutes",), ("is_possible",), ("infeasible_interval",),
        ("is_feasible", []), ("is_feasible", [0]), ("is_feasible", [LARGEST_IN_ROW] * 20),
        ("admitted", []), ("admitted", [9, 9]), ("admitted", [10] * 20),
        ("queue_lengths", []), ("queue_lengths", [1, 2, 3]), ("queue_lengths", [LARGEST_IN_ROW]),
        ("longest_wait", []), ("longest_wait", [0]), ("longest_wait", [0] * 20),
        ("min_max_gates",), ("min_max_wait",),
        ("gate_minutes_if_arrivals", 0, 5), ("gate_minutes_if_arrivals", LARGEST, LARGEST),
        ("gate_minutes_if_max_wait", 0), ("gate_minutes_if_max_wait", 7), ("gate_minutes_if_max_wait", LARGEST),
        ("max_arrivals", 0), ("max_arrivals", LARGEST),
        ("total_arrivals", 0, 0), ("total_arrivals", 1, 0), ("total_arrivals", LARGEST, LARGEST),
        ("get_state",),
    )

    def test_before_the_first_create(self):
        for call in self.CALLS:
            self.assertEqual(ask(call), [[-11]], call)
        self.assertEqual(ask(*self.CALLS), [[-11]] * len(self.CALLS))

    def test_after_a_create_that_failed(self):
        for failed in (("create", 0, 1, 1), ("create", 1, 7, 1), ("create", 1, 1, 7)):
            for call in self.CALLS:
                self.assertEqual(ask(failed, call), [[-22], [-11]], (failed, call))

    def test_nothing_of_a_refused_call_comes_back(self):
        calls = (*self.CALLS, ("create", 2, 3, 1), *PROBES)
        self.assertEqual(ask(*calls)[len(self.CALLS):], [[0]] + probed(*EMPTY))


class AddMinute(PlannerCase):
    def test_ends_of_the_range(self):
        for people in (0, 1, 39, 40):
            self.check_change(EMPTY, ("add_minute", people), [0], ([people], 2, 3, 1))
            self.check_change(SMALL, ("add_minute", people), [3], ([5, 0, 3, people], 2, 3, 1))

    def test_too_many_people(self):
        for people in (41, 42, LARGEST):
            for plan in (EMPTY, SMALL):
                self.check_refusal(plan, ("add_minute", people), -22)

    def test_ten_minutes_and_the_eleventh(self):
        self.check_change((FULL[0][:9], 9, 6, 6), ("add_minute", 36), [9], FULL)
        for people in (0, 40):
            self.check_refusal(FULL, ("add_minute", people), -28)

    def test_too_many_people_comes_before_too_many_minutes(self):
        for people in (41, LARGEST):
            self.check_refusal(FULL, ("add_minute", people), -22)

    def test_there_is_room_again_behind_a_removed_minute(self):
        calls = (("remove_last_minute",), ("add_minute", 8), ("add_minute", 8))
        self.assertEqual(ask_planner(FULL, *calls), [[9], [9], [-28]])


class SetArrivals(PlannerCase):
    def test_each_minute_and_the_ends_of_the_range(self):
        for people in (0, 17, 40):
            self.check_change(SMALL, ("set_arrivals", 0, people), [5], ([people, 0, 3], 2, 3, 1))
            self.check_change(SMALL, ("set_arrivals", 1, people), [0], ([5, people, 3], 2, 3, 1))
            self.check_change(SMALL, ("set_arrivals", 2, people), [3], ([5, 0, people], 2, 3, 1))
            self.check_change(FULL, ("set_arrivals", 9, people), [36], (FULL[0][:9] + [people], 9, 6, 6))

    def test_no_such_minute(self):
        for minute in (3, 4, LARGEST):
            self.check_refusal(SMALL, ("set_arrivals", minute, 5), -2)
        for minute in (0, 1, LARGEST):
            self.check_refusal(EMPTY, ("set_arrivals", minute, 5), -2)
        for minute in (10, LARGEST):
            self.check_refusal(FULL, ("set_arrivals", minute, 5), -2)

    def test_too_many_people(self):
        for people in (41, LARGEST):
            for minute in (0, 1, 2):
                self.check_refusal(SMALL, ("set_arrivals", minute, people), -22)

    def test_no_such_minute_comes_before_too_many_people(self):
        for people in (41, LARGEST):
            self.check_refusal(SMALL, ("set_arrivals", 3, people), -2)
            self.check_refusal(EMPTY, ("set_arrivals", 0, people), -2)
            self.check_refusal(FULL, ("set_arrivals", 10, people), -2)

    def test_a_removed_minute_is_gone(self):
        self.assertEqual(ask_planner(SMALL, ("remove_last_minute",), ("set_arrivals", 2, 5)), [[2], [-2]])


class RemoveLastMinute(PlannerCase):
    def test_down_to_none(self):
        self.check_change(SMALL, ("remove_last_minute",), [2], ([5, 0], 2, 3, 1))
        self.check_change(FULL, ("remove_last_minute",), [9], (FULL[0][:9], 9, 6, 6))
        self.check_change(([7], 1, 0, 0), ("remove_last_minute",), [0], ([], 1, 0, 0))
        self.assertEqual(ask_planner(SMALL, *[("remove_last_minute",)] * 5), [[2], [1], [0], [-6], [-6]])

    def test_no_minutes(self):
        self.check_refusal(EMPTY, ("remove_last_minute",), -6)


class Settings(PlannerCase):
    def test_set_per_gate(self):
        for people in (1, 2, 8, 9):
            self.check_change(SMALL, ("set_per_gate", people), [2], ([5, 0, 3], people, 3, 1))
            self.check_change(EMPTY, ("set_per_gate", people), [2], ([], people, 3, 1))
        for people in (0, 10, 11, LARGEST):
            for plan in (SMALL, EMPTY, FULL):
                self.check_refusal(plan, ("set_per_gate", people), -22)

    def test_set_max_gates(self):
        for gates in (0, 1, 5, 6):
            self.check_change(SMALL, ("set_max_gates", gates), [3], ([5, 0, 3], 2, gates, 1))
            self.check_change(EMPTY, ("set_max_gates", gates), [3], ([], 2, gates, 1))
        for gates in (7, 8, LARGEST):
            for plan in (SMALL, EMPTY, FULL):
                self.check_refusal(plan, ("set_max_gates", gates), -22)

    def test_set_max_wait(self):
        for minutes in (0, 1, 5, 6):
            self.check_change(SMALL, ("set_max_wait", minutes), [1], ([5, 0, 3], 2, 3, minutes))
            self.check_change(EMPTY, ("set_max_wait", minutes), [1], ([], 2, 3, minutes))
        for minutes in (7, 8, LARGEST):
            for plan in (SMALL, EMPTY, FULL):
                self.check_refusal(plan, ("set_max_wait", minutes), -22)

    def test_a_change_shows_in_the_answers(self):
        calls = building([5, 0], 2, 2, 1) + [
            ("best_schedule",),
            ("set_max_wait", 2), ("best_schedule",),
            ("set_per_gate", 5), ("best_schedule",),
            ("set_max_gates", 0), ("best_schedule",), ("infeasible_interval",),
            ("set_arrivals", 0, 0), ("best_schedule",),
            ("remove_last_minute",), ("best_schedule",),
        ]
        self.assertEqual(ask(*calls)[3:], [
            [3, 1, 2, 0],
            [1], [4, 0, 1, 2, 0],
            [2], [4, 0, 0, 1, 0],
            [2], [-33], [0, 0, 5],
            [5], [4, 0, 0, 0, 0],
            [1], [3, 0, 0, 0],
        ])
