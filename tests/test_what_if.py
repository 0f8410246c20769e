"""The calls that ask what if: by hand, and against planners that really have the other value."""

import unittest

from tests.helper import (
    LARGEST,
    PROBES,
    PlannerCase,
    ask_planner,
    best_by_steps,
    every_small_plan,
    interval_by_definition,
    plans_at_the_limits,
    probed,
    some_plans,
)

POSSIBLE = ([5, 0, 3], 2, 3, 1)
IMPOSSIBLE = ([9, 0, 3], 1, 2, 1)
EMPTY = ([], 2, 3, 1)


def many_plans():
    # With one gate that admits one person, a crowd needs one minute for each.
    lonely = [([people], 1, 1, 0) for people in range(9)]
    return [*every_small_plan(2), *some_plans(9, 200), *plans_at_the_limits(), *lonely]


def gate_minutes_if(plan):
    """What gate_minutes_if_max_wait answers for each waiting time."""
    return [answer[0] for answer in ask_planner(plan, *[("gate_minutes_if_max_wait", wait) for wait in range(7)])]


class SmallestCase(PlannerCase):
    def check_without_minutes(self, query):
        for max_gates in (0, 6):
            for max_wait in (0, 6):
                self.check_query(([], 1, max_gates, max_wait), query, [0])

    def check_against_is_possible(self, query, setter):
        """The query answers the smallest value that makes planners possible when it is really set."""
        found = set()
        for plan in many_plans():
            turns = [call for value in range(7) for call in ((setter, value), ("is_possible",))]
            smallest, *answered = ask_planner(plan, query, *turns)
            values = [value for value in range(7) if answered[2 * value + 1] == [1]]
            self.assertEqual(smallest, values[:1] or [-33], plan)
            found.add(smallest[0])
        self.assertEqual(found, {-33, 0, 1, 2, 3, 4, 5, 6})


class MinMaxGates(SmallestCase):
    def test_by_hand(self):
        for plan, gates in (
            (([5, 0], 2, 2, 1), 2), (([5, 0], 2, 6, 1), 2), (([5, 0], 2, 0, 1), 2),
            (([5, 0], 2, 0, 0), 3), (([5, 0], 2, 0, 2), 1), (([0, 0], 1, 6, 0), 0),
            (([6], 1, 0, 0), 6), (([7], 1, 6, 0), -33),
            (([40] * 10, 9, 0, 0), 5), (([40] * 10, 9, 6, 6), 3), (([40] * 10, 1, 6, 6), -33),
        ):
            self.check_query(plan, ("min_max_gates",), [gates])

    def test_without_minutes(self):
        self.check_without_minutes(("min_max_gates",))

    def test_against_is_possible_with_each_value(self):
        self.check_against_is_possible(("min_max_gates",), "set_max_gates")


class MinMaxWait(SmallestCase):
    def test_by_hand(self):
        for plan, minutes in (
            (([3], 1, 1, 0), 2), (([3], 1, 1, 6), 2), (([3], 1, 3, 6), 0), (([3], 1, 2, 0), 1),
            (([0, 0], 1, 0, 6), 0), (([1], 9, 0, 0), -33),
            (([7], 1, 1, 0), 6), (([8], 1, 1, 6), -33),
            (([40] * 10, 9, 5, 6), 0), (([40] * 10, 9, 4, 6), 2), (([40] * 10, 9, 3, 0), 5),
            (([40] * 10, 9, 2, 6), -33),
        ):
            self.check_query(plan, ("min_max_wait",), [minutes])

    def test_without_minutes(self):
        self.check_without_minutes(("min_max_wait",))

    def test_against_is_possible_with_each_value(self):
        self.check_against_is_possible(("min_max_wait",), "set_max_wait")


class GateMinutesIfArrivals(PlannerCase):
    def test_by_hand(self):
        plan = ([5, 0, 3], 2, 3, 1)
        for minute, people, gate_minutes in (
            (0, 0, 2), (0, 5, 5), (0, 6, 5), (0, 12, 8), (0, 13, -33), (0, 40, -33),
            (1, 0, 5), (1, 1, 5), (1, 2, 5), (1, 3, 6),
            (2, 0, 3), (2, 12, 9), (2, 13, -33), (2, 40, -33),
        ):
            self.check_query(plan, ("gate_minutes_if_arrivals", minute, people), [gate_minutes])

    def test_fewer_people_make_an_impossible_planner_possible(self):
        self.check_query(IMPOSSIBLE, ("gate_minutes_if_arrivals", 0, 9), [-33])
        self.check_query(IMPOSSIBLE, ("gate_minutes_if_arrivals", 0, 5), [-33])
        self.check_query(IMPOSSIBLE, ("gate_minutes_if_arrivals", 0, 4), [7])
        self.check_query(IMPOSSIBLE, ("gate_minutes_if_arrivals", 0, 0), [3])
        self.check_query(IMPOSSIBLE, ("gate_minutes_if_arrivals", 2, 0), [-33])

    def test_no_such_minute(self):
        for people in (0, 40):
            for minute in (3, 4, LARGEST):
                self.check_refusal(POSSIBLE, ("gate_minutes_if_arrivals", minute, people), -2)
            self.check_refusal(EMPTY, ("gate_minutes_if_arrivals", 0, people), -2)
            self.check_refusal(([0] * 10, 1, 1, 1), ("gate_minutes_if_arrivals", 10, people), -2)

    def test_too_many_people(self):
        for people in (41, 42, LARGEST):
            for minute in (0, 1, 2):
                self.check_refusal(POSSIBLE, ("gate_minutes_if_arrivals", minute, people), -22)

    def test_the_order_of_the_errors(self):
        for people in (41, LARGEST):
            self.check_refusal(POSSIBLE, ("gate_minutes_if_arrivals", 3, people), -2)
            self.check_refusal(IMPOSSIBLE, ("gate_minutes_if_arrivals", 3, people), -2)
            self.check_refusal(IMPOSSIBLE, ("gate_minutes_if_arrivals", 1, people), -22)
        self.check_refusal(IMPOSSIBLE, ("gate_minutes_if_arrivals", 3, 0), -2)
        self.check_refusal(IMPOSSIBLE, ("gate_minutes_if_arrivals", 1, 0), -33)

    def check_against_real_planners(self, plan, counts):
        for minute in range(len(plan[0])):
            asking = [("gate_minutes_if_arrivals", minute, people) for people in counts]
            found = ask_planner(plan, *asking, *PROBES)
            turns = [call for people in counts for call in (("set_arrivals", minute, people), ("min_gate_minutes",))]
            self.assertEqual(found[:len(counts)], ask_planner(plan, *turns)[1::2], (plan, minute))
            self.assertEqual(found[len(counts):], probed(*plan), (plan, minute))

    def test_against_planners_with_that_number(self):
        for plan in every_small_plan(2):
            self.check_against_real_planners(plan, range(8))
        for plan in some_plans(10, 60):
            self.check_against_real_planners(plan, (0, 1, 2, 3, 5, 8, 13, 21, 34, 39, 40))

    def test_against_steps(self):
        for plan in some_plans(11, 60):
            arrivals, *settings = plan
            for people in (0, 7, 40):
                best = best_by_steps([people, *arrivals[1:]], *settings)
                answered = [-33] if best is None else [sum(best)]
                self.check_query(plan, ("gate_minutes_if_arrivals", 0, people), answered)


class GateMinutesIfMaxWait(PlannerCase):
    def test_by_hand(self):
        self.assertEqual(gate_minutes_if(([3], 1, 1, 0)), [-33, -33, 3, 3, 3, 3, 3])
        self.assertEqual(gate_minutes_if(([1, 1, 1, 1], 4, 1, 6)), [4, 2, 2, 1, 1, 1, 1])
        self.assertEqual(gate_minutes_if(([1, 0, 0, 0, 0, 0, 1], 2, 1, 3)), [2, 2, 2, 2, 2, 2, 1])
        self.assertEqual(gate_minutes_if(([40] * 10, 9, 6, 0)), [50, 45, 45, 45, 45, 45, 45])
        self.assertEqual(gate_minutes_if(([40] * 10, 1, 6, 0)), [-33] * 7)
        self.assertEqual(gate_minutes_if(([], 1, 0, 3)), [0] * 7)

    def test_too_long(self):
        for minutes in (7, 8, LARGEST):
            for plan in (POSSIBLE, EMPTY):
                self.check_refusal(plan, ("gate_minutes_if_max_wait", minutes), -22)

    def test_the_order_of_the_errors(self):
        for minutes in (7, LARGEST):
            self.check_refusal(IMPOSSIBLE, ("gate_minutes_if_max_wait", minutes), -22)
        self.check_refusal(IMPOSSIBLE, ("gate_minutes_if_max_wait", 1), -33)

    def test_against_planners_with_that_limit(self):
        for plan in many_plans():
            asking = [("gate_minutes_if_max_wait", minutes) for minutes in range(7)]
            found = ask_planner(plan, *asking, *PROBES)
            turns = [call for minutes in range(7) for call in (("set_max_wait", minutes), ("min_gate_minutes",))]
            self.assertEqual(found[:7], ask_planner(plan, *turns)[1::2], plan)
            self.assertEqual(found[7:], probed(*plan), plan)

    def test_against_steps(self):
        for plan in some_plans(12, 60):
            for minutes in range(7):
                best = best_by_steps(*plan[:3], minutes)
                answered = [-33] if best is None else [sum(best)]
                self.check_query(plan, ("gate_minutes_if_max_wait", minutes), answered)


class LongerWaits(unittest.TestCase):
    def test_a_longer_waiting_time_never_needs_more_gate_minutes(self):
        falls = 0
        for plan in many_plans():
            found = gate_minutes_if(plan)
            turns = [call for minutes in range(7) for call in (("set_max_wait", minutes), ("min_gate_minutes",))]
            self.assertEqual([answer[0] for answer in ask_planner(plan, *turns)[1::2]], found, plan)
            for shorter, longer in zip(found, found[1:]):
                if shorter != -33:
                    self.assertIn(longer, range(shorter + 1), (plan, found))
                    falls += 1 if longer < shorter else 0
        self.assertGreater(falls, 100)


class MaxArrivals(PlannerCase):
    def test_by_hand(self):
        for plan, minute, people in (
            (([5, 0], 2, 2, 1), 0, 8), (([5, 0], 2, 2, 1), 1, 7), (([8, 0], 2, 2, 1), 0, 8), (([8, 0], 2, 2, 1), 1, 4),
            (([0], 1, 0, 0), 0, 0), (([0, 0], 9, 0, 6), 1, 0), (([1], 1, 1, 0), 0, 1),
            (([2], 9, 4, 0), 0, 36), (([39], 8, 5, 0), 0, 40), (([40], 8, 5, 0), 0, 40), (([0], 9, 5, 0), 0, 40),
            (([0], 1, 5, 6), 0, 35), (([0], 1, 6, 6), 0, 40), (([40] * 10, 9, 6, 6), 9, 40),
        ):
            self.check_query(plan, ("max_arrivals", minute), [people])

    def test_no_such_minute(self):
        for minute in (3, 4, LARGEST):
            self.check_refusal(POSSIBLE, ("max_arrivals", minute), -2)
        for minute in (0, 1, LARGEST):
            self.check_refusal(EMPTY, ("max_arrivals", minute), -2)
        self.check_refusal(([0] * 10, 1, 1, 1), ("max_arrivals", 10), -2)

    def test_no_feasible_schedule_now(self):
        # With fewer people in minute 0 there would be one, but the current arrivals have none.
        for minute in (0, 1, 2):
            self.check_refusal(IMPOSSIBLE, ("max_arrivals", minute), -33)
        self.check_refusal(([1], 9, 0, 6), ("max_arrivals", 0), -33)
        self.check_refusal(([40] * 10, 1, 6, 6), ("max_arrivals", 9), -33)

    def test_the_order_of_the_errors(self):
        for minute in (3, LARGEST):
            self.check_refusal(IMPOSSIBLE, ("max_arrivals", minute), -2)

    def test_against_planners_with_each_number(self):
        found = set()
        for plan in [*every_small_plan(2), *some_plans(13, 100), *plans_at_the_limits()]:
            possible = interval_by_definition(*plan) is None
            for minute in range(len(plan[0])):
                turns = [call for people in range(41) for call in (("set_arrivals", minute, people), ("is_possible",))]
                most, state, arrivals, *answered = ask_planner(plan, ("max_arrivals", minute), *PROBES, *turns)
                numbers = [people for people in range(41) if answered[2 * people + 1] == [1]]
                self.assertEqual(most, [max(numbers)] if possible else [-33], (plan, minute))
                self.assertEqual([state, arrivals], probed(*plan), (plan, minute))
                found.add(most[0])
        self.assertLessEqual({-33, 0, 1, 39, 40}, found)
