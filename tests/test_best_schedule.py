"""The best schedule and the infeasible interval against the document's own definitions."""

import itertools
import random
import unittest

from tests.helper import (
    ask_planner,
    best_by_steps,
    best_of_all,
    feasible_by_queue,
    interval_by_definition,
    schedule_length,
)


def every_small_plan():
    """Up to three minutes with up to three people each, and all small settings."""
    for count in range(4):
        for arrivals in itertools.product(range(4), repeat=count):
            for settings in itertools.product((1, 2, 3), (0, 1, 2), (0, 1, 2)):
                yield (list(arrivals), *settings)


def some_plans(seed, wanted, most_schedules):
    """Planners from all of the ranges, the crowds of which lie about what their gates can admit."""
    source = random.Random(seed)
    plans = []
    while len(plans) < wanted:
        count = source.randint(1, 10)
        per_gate, max_gates, max_wait = source.randint(1, 9), source.randint(0, 6), source.randint(0, 6)
        most = min(40, source.choice((1, 1, 2, 3)) * (per_gate * max_gates + 1))
        arrivals = [source.choice((0, source.randint(0, most), source.randint(0, most))) for minute in range(count)]
        if (max_gates + 1) ** (count + max_wait) <= most_schedules:
            plans.append((arrivals, per_gate, max_gates, max_wait))
    return plans


class DefinitionCase(unittest.TestCase):
    def check(self, plan, best):
        """What is answered of the planner where this is its best schedule, None if it has none."""
        calls = (("best_schedule",), ("min_gate_minutes",), ("is_possible",), ("infeasible_interval",))
        schedule, gate_minutes, possible, interval = ask_planner(plan, *calls)
        if best is None:
            self.assertEqual((schedule, gate_minutes, possible), ([-33], [-33], [0]), plan)
        else:
            self.assertEqual((schedule, gate_minutes, possible), ([len(best), *best], [sum(best)], [1]), plan)
            self.assertEqual(len(best), schedule_length(plan[0], plan[3]), plan)
            self.assertTrue(feasible_by_queue(best, *plan), plan)
        self.assertEqual(interval, interval_by_definition(*plan) or [-33], plan)
        self.assertEqual(interval == [-33], possible == [1], plan)

    def check_all(self, plans, search):
        """Every planner of a list that holds both possible and impossible ones."""
        kinds = set()
        for plan in plans:
            best = search(*plan)
            kinds.add(best is None)
            self.check(plan, best)
        self.assertEqual(kinds, {True, False})


class AgainstAllSchedules(DefinitionCase):
    def test_every_small_planner(self):
        self.check_all(every_small_plan(), best_of_all)

    def test_some_planners_with_more_minutes_or_gates(self):
        self.check_all(some_plans(1, 500, 3000), best_of_all)


class AgainstSteps(DefinitionCase):
    def test_both_searches_find_the_same(self):
        for plan in some_plans(2, 200, 1000):
            self.assertEqual(best_by_steps(*plan), best_of_all(*plan), plan)

    def test_some_planners_of_any_size(self):
        self.check_all(some_plans(3, 500, 7 ** 16), best_by_steps)

    def test_planners_at_the_limits(self):
        crowds = (
            [40] * 10, [0] * 10, [40] + [0] * 9, [0] * 9 + [40], [40, 0] * 5, [0, 40] * 5,
            [0] * 5 + [40] * 5, [40] * 5 + [0] * 5, list(range(31, 41)), [40] * 9, [40],
        )
        plans = [(crowd, *rest) for crowd in crowds for rest in itertools.product((1, 9), (0, 6), (0, 6))]
        self.check_all(plans, best_by_steps)


class LimitsByHand(DefinitionCase):
    def test_ten_full_minutes_without_a_wait(self):
        self.check(([40] * 10, 9, 6, 0), [5] * 10)

    def test_ten_full_minutes_with_the_longest_wait(self):
        # Minute 6 has to end with 40 people admitted, the next with 80, and so on up to 400: with 5 gate-minutes,
        # then 9, 14, 18, 23, 27, 32, 36, 40 and 45. No minute needs more than six gates, so nothing is due earlier.
        self.check(([40] * 10, 9, 6, 6), [0] * 6 + [5, 4, 5, 4, 5, 4, 5, 4, 4, 5])

    def test_ten_full_minutes_that_are_too_much(self):
        self.check(([40] * 10, 1, 6, 6), None)
        self.assertEqual(ask_planner(([40] * 10, 1, 6, 6), ("infeasible_interval",)), [[0, 1, 80]])
        self.assertEqual(ask_planner(([40] * 10, 1, 6, 0), ("infeasible_interval",)), [[0, 0, 40]])
        self.assertEqual(ask_planner(([40] * 10, 9, 0, 6), ("infeasible_interval",)), [[0, 0, 40]])

    def test_one_full_minute_and_the_slowest_gates(self):
        self.check(([40], 1, 6, 6), [4] + [6] * 6)
        self.check(([0] * 9 + [40], 1, 6, 6), [0] * 9 + [4] + [6] * 6)
