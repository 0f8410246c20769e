"""The calls that answer from a planner, by figures that can be followed by hand."""

import unittest

from tests.helper import ask_planner, probed, probing

QUERIES = (
    ("list_arrivals",), ("best_schedule",), ("min_gate_minutes",), ("is_possible",), ("infeasible_interval",),
)


class QueryCase(unittest.TestCase):
    def check_possible(self, plan, schedule):
        """The planner is possible, with this best schedule."""
        expected = [[len(plan[0]), *plan[0]], [len(schedule), *schedule], [sum(schedule)], [1], [-33]]
        self.assertEqual(ask_planner(plan, *QUERIES), expected, plan)

    def check_impossible(self, plan, interval):
        """The planner is impossible, with this infeasible interval."""
        expected = [[len(plan[0]), *plan[0]], [-33], [-33], [0], interval]
        self.assertEqual(ask_planner(plan, *QUERIES), expected, plan)


class NoMinutes(QueryCase):
    def test_the_empty_schedule_is_feasible(self):
        for per_gate in (1, 9):
            for max_gates in (0, 6):
                for max_wait in (0, 6):
                    self.check_possible(([], per_gate, max_gates, max_wait), [])


class Possible(QueryCase):
    def test_nobody_arrives(self):
        self.check_possible(([0], 1, 0, 0), [0])
        self.check_possible(([0, 0], 9, 6, 6), [0] * 8)
        self.check_possible(([0] * 10, 1, 0, 6), [0] * 16)

    def test_no_wait_opens_for_each_minute_alone(self):
        self.check_possible(([3, 0, 4, 1], 2, 2, 0), [2, 0, 2, 1])
        self.check_possible(([40] * 10, 9, 6, 0), [5] * 10)

    def test_gates_open_as_late_as_the_wait_lets_them(self):
        self.check_possible(([5], 1, 6, 3), [0, 0, 0, 5])
        self.check_possible(([5], 1, 2, 3), [0, 1, 2, 2])
        self.check_possible(([6], 1, 2, 3), [0, 2, 2, 2])
        self.check_possible(([8], 1, 2, 3), [2, 2, 2, 2])

    def test_people_of_two_minutes_share_a_gate_minute(self):
        self.check_possible(([1, 1], 2, 1, 1), [0, 1, 0])
        self.check_possible(([1, 2], 2, 1, 1), [0, 1, 1])
        self.check_possible(([1, 0, 1], 2, 1, 1), [0, 1, 0, 1])

    def test_a_later_crowd_makes_gates_open_before_it(self):
        self.check_possible(([1, 3], 1, 2, 1), [0, 2, 2])
        self.check_possible(([2, 3], 1, 2, 1), [1, 2, 2])


class Impossible(QueryCase):
    def test_one_person_more_than_the_gates_admit(self):
        self.check_possible(([8], 1, 2, 3), [2, 2, 2, 2])
        self.check_impossible(([9], 1, 2, 3), [0, 0, 9])
        self.check_possible(([1], 1, 1, 0), [1])
        self.check_impossible(([2], 1, 1, 0), [0, 0, 2])

    def test_no_gates(self):
        self.check_impossible(([1], 9, 0, 6), [0, 0, 1])
        self.check_impossible(([0, 0, 1], 9, 0, 6), [0, 2, 1])

    def test_minutes_that_are_possible_alone_but_not_together(self):
        self.check_impossible(([2, 2], 1, 1, 1), [0, 1, 4])
        self.check_impossible(([0, 2, 2], 1, 1, 1), [1, 2, 4])

    def test_the_smallest_last_then_the_smallest_first(self):
        self.check_impossible(([0, 5, 9], 1, 2, 0), [0, 1, 5])
        self.check_impossible(([9, 9, 9], 1, 1, 1), [0, 0, 9])
        self.check_impossible(([1, 0, 3], 1, 1, 0), [0, 2, 4])
        self.check_impossible(([0, 0, 3], 1, 1, 0), [1, 2, 3])


class Pure(unittest.TestCase):
    PLANS = (
        ([], 1, 0, 0), ([], 9, 6, 6), ([5, 0], 2, 2, 1), ([3], 1, 1, 0),
        ([40] * 10, 9, 6, 6), ([40] * 10, 1, 0, 0), ([0, 40, 0], 9, 6, 6), ([9, 9, 9], 1, 1, 1),
    )

    def test_each_query_leaves_every_part_of_the_state(self):
        for plan in self.PLANS:
            for query in QUERIES:
                found = ask_planner(plan, *probing(*plan), query, *probing(*plan))
                self.assertEqual(found[:4], probed(*plan), (plan, query))
                self.assertEqual(found[5:], probed(*plan), (plan, query))

    def test_queries_answer_the_same_again_and_in_any_order(self):
        for plan in self.PLANS:
            found = ask_planner(plan, *QUERIES, *QUERIES, *reversed(QUERIES))
            self.assertEqual(found[5:10], found[:5], plan)
            self.assertEqual(found[:9:-1], found[:5], plan)
