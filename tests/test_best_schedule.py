"""The best schedule and the infeasible interval against the document's own definitions."""

import unittest

from tests.helper import (
    ask_planner,
    best_by_steps,
    best_of_all,
    every_small_plan,
    feasible_by_queue,
    interval_by_definition,
    plans_at_the_limits,
    schedule_length,
    some_plans,
)


class DefinitionCase(unittest.TestCase):
    def check(self, plan, best):
        """What is answered of the planner where this is its best schedule, None if it has none."""
        calls = (("best_schedule",), ("min_gate_minutes",), ("is_possible",), ("infeasible_interval",))
        schedule, gate_minutes, possible, interval = ask_planner(plan, *calls)
        if best is None:
            self.assertEqual((schedule, gate_minutes, possible), ([-33], [-33], [0]), plan)
        else:
            self.assertEqual((schedule, gate_minutes, possible), ([len(best), *best], [sum(best)], [1]), plan)
            self.assertEqual(len(best), schedule_length(plan[0], plan[3]), plan)
            self.assertTrue(feasible_by_queue(best, *plan), plan)
        self.assertEqual(interval, interval_by_definition(*plan) or [-33], plan)
        self.assertEqual(interval == [-33], possible == [1], plan)

    def check_all(self, plans, search):
        """Every planner of a list that holds both possible and impossible ones."""
        kinds = set()
        for plan in plans:
            best = search(*plan)
            kinds.add(best is None)
            self.check(plan, best)
        self.assertEqual(kinds, {True, False})


class AgainstAllSchedules(DefinitionCase):
    def test_every_small_planner(self):
        self.check_all(every_small_plan(3), best_of_all)

    def test_some_planners_with_more_minutes_or_gates(self):
        self.check_all(some_plans(1, 500, 3000), best_of_all)


class AgainstSteps(DefinitionCase):
    def test_both_searches_find_the_same(self):
        for plan in some_plans(2, 200, 1000):
            self.assertEqual(best_by_steps(*plan), best_of_all(*plan), plan)

    def test_some_planners_of_any_size(self):
        self.check_all(some_plans(3, 500), best_by_steps)

    def test_planners_at_the_limits(self):
        self.check_all(plans_at_the_limits(), best_by_steps)


class LimitsByHand(DefinitionCase):
    def test_ten_full_minutes_without_a_wait(self):
        self.check(([40] * 10, 9, 6, 0), [5] * 10)

    def test_ten_full_minutes_with_the_longest_wait(self):
        # Minute 6 has to end with 40 people admitted, the next with 80, and so on up to 400: with 5 gate-minutes,
        # then 9, 14, 18, 23, 27, 32, 36, 40 and 45. No minute needs more than six gates, so nothing is due earlier.
        self.check(([40] * 10, 9, 6, 6), [0] * 6 + [5, 4, 5, 4, 5, 4, 5, 4, 4, 5])

    def test_ten_full_minutes_that_are_too_much(self):
        self.check(([40] * 10, 1, 6, 6), None)
        self.assertEqual(ask_planner(([40] * 10, 1, 6, 6), ("infeasible_interval",)), [[0, 1, 80]])
        self.assertEqual(ask_planner(([40] * 10, 1, 6, 0), ("infeasible_interval",)), [[0, 0, 40]])
        self.assertEqual(ask_planner(([40] * 10, 9, 0, 6), ("infeasible_interval",)), [[0, 0, 40]])

    def test_one_full_minute_and_the_slowest_gates(self):
        self.check(([40], 1, 6, 6), [4] + [6] * 6)
        self.check(([0] * 9 + [40], 1, 6, 6), [0] * 9 + [4] + [6] * 6)
