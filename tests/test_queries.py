"""The calls that answer from a planner, by figures that can be followed by hand."""

from tests.helper import LARGEST, LARGEST_IN_ROW, PlannerCase, ask_planner, schedule_length, some_plans

QUERIES = (
    ("list_arrivals",), ("best_schedule",), ("min_gate_minutes",), ("is_possible",), ("infeasible_interval",),
)


class QueryCase(PlannerCase):
    def check_possible(self, plan, schedule):
        """The planner is possible, with this best schedule."""
        expected = [[len(plan[0]), *plan[0]], [len(schedule), *schedule], [sum(schedule)], [1], [-33]]
        self.assertEqual(ask_planner(plan, *QUERIES), expected, plan)

    def check_impossible(self, plan, interval):
        """The planner is impossible, with this infeasible interval."""
        expected = [[len(plan[0]), *plan[0]], [-33], [-33], [0], interval]
        self.assertEqual(ask_planner(plan, *QUERIES), expected, plan)


class NoMinutes(QueryCase):
    def test_the_empty_schedule_is_feasible(self):
        for per_gate in (1, 9):
            for max_gates in (0, 6):
                for max_wait in (0, 6):
                    self.check_possible(([], per_gate, max_gates, max_wait), [])


class Possible(QueryCase):
    def test_nobody_arrives(self):
        self.check_possible(([0], 1, 0, 0), [0])
        self.check_possible(([0, 0], 9, 6, 6), [0] * 8)
        self.check_possible(([0] * 10, 1, 0, 6), [0] * 16)

    def test_no_wait_opens_for_each_minute_alone(self):
        self.check_possible(([3, 0, 4, 1], 2, 2, 0), [2, 0, 2, 1])
        self.check_possible(([40] * 10, 9, 6, 0), [5] * 10)

    def test_gates_open_as_late_as_the_wait_lets_them(self):
        self.check_possible(([5], 1, 6, 3), [0, 0, 0, 5])
        self.check_possible(([5], 1, 2, 3), [0, 1, 2, 2])
        self.check_possible(([6], 1, 2, 3), [0, 2, 2, 2])
        self.check_possible(([8], 1, 2, 3), [2, 2, 2, 2])

    def test_people_of_two_minutes_share_a_gate_minute(self):
        self.check_possible(([1, 1], 2, 1, 1), [0, 1, 0])
        self.check_possible(([1, 2], 2, 1, 1), [0, 1, 1])
        self.check_possible(([1, 0, 1], 2, 1, 1), [0, 1, 0, 1])

    def test_a_later_crowd_makes_gates_open_before_it(self):
        self.check_possible(([1, 3], 1, 2, 1), [0, 2, 2])
        self.check_possible(([2, 3], 1, 2, 1), [1, 2, 2])


class Impossible(QueryCase):
    def test_one_person_more_than_the_gates_admit(self):
        self.check_possible(([8], 1, 2, 3), [2, 2, 2, 2])
        self.check_impossible(([9], 1, 2, 3), [0, 0, 9])
        self.check_possible(([1], 1, 1, 0), [1])
        self.check_impossible(([2], 1, 1, 0), [0, 0, 2])

    def test_no_gates(self):
        self.check_impossible(([1], 9, 0, 6), [0, 0, 1])
        self.check_impossible(([0, 0, 1], 9, 0, 6), [0, 2, 1])

    def test_minutes_that_are_possible_alone_but_not_together(self):
        self.check_impossible(([2, 2], 1, 1, 1), [0, 1, 4])
        self.check_impossible(([0, 2, 2], 1, 1, 1), [1, 2, 4])

    def test_the_smallest_last_then_the_smallest_first(self):
        self.check_impossible(([0, 5, 9], 1, 2, 0), [0, 1, 5])
        self.check_impossible(([9, 9, 9], 1, 1, 1), [0, 0, 9])
        self.check_impossible(([1, 0, 3], 1, 1, 0), [0, 2, 4])
        self.check_impossible(([0, 0, 3], 1, 1, 0), [1, 2, 3])


class TotalArrivals(PlannerCase):
    PLAN = ([5, 0, 3, 40], 2, 3, 1)

    def test_first_below_last(self):
        for first, last, people in ((0, 1, 5), (0, 2, 8), (0, 3, 48), (1, 2, 3), (1, 3, 43), (2, 3, 43)):
            self.check_query(self.PLAN, ("total_arrivals", first, last), [people])

    def test_one_minute(self):
        for minute, people in enumerate(self.PLAN[0]):
            self.check_query(self.PLAN, ("total_arrivals", minute, minute), [people])

    def test_first_above_last(self):
        for first in range(4):
            for last in range(first):
                self.check_query(self.PLAN, ("total_arrivals", first, last), [0])

    def test_a_minute_that_does_not_exist(self):
        for missing in (4, 5, 10, LARGEST):
            for other in (0, 3, 4, LARGEST):
                self.check_refusal(self.PLAN, ("total_arrivals", missing, other), -2)
                self.check_refusal(self.PLAN, ("total_arrivals", other, missing), -2)

    def test_no_minute_exists(self):
        for first in (0, 1, LARGEST):
            for last in (0, 1, LARGEST):
                self.check_refusal(([], 2, 3, 1), ("total_arrivals", first, last), -2)

    def test_a_full_planner(self):
        plan = ([40] * 10, 1, 0, 0)
        self.check_query(plan, ("total_arrivals", 0, 9), [400])
        self.check_query(plan, ("total_arrivals", 9, 9), [40])
        self.check_query(plan, ("total_arrivals", 9, 0), [0])
        self.check_refusal(plan, ("total_arrivals", 0, 10), -2)
        self.check_refusal(plan, ("total_arrivals", 10, 0), -2)

    def test_every_two_minutes_of_many_planners(self):
        for plan in some_plans(4, 50):
            minutes = range(len(plan[0]))
            calls = [("total_arrivals", first, last) for first in minutes for last in minutes]
            expected = [[sum(plan[0][first:last + 1])] for first in minutes for last in minutes]
            self.assertEqual(ask_planner(plan, *calls), expected, plan)


class GetState(PlannerCase):
    def test_each_part_has_its_place(self):
        self.assertEqual(ask_planner(([5, 0, 3], 9, 6, 4), ("get_state",)), [[3, 9, 6, 4, 8]])
        self.assertEqual(ask_planner(([], 1, 0, 0), ("get_state",)), [[0, 1, 0, 0, 0]])
        self.assertEqual(ask_planner(([40] * 10, 9, 6, 6), ("get_state",)), [[10, 9, 6, 6, 400]])

    def test_it_follows_each_change(self):
        changes = (
            ("add_minute", 7), ("add_minute", 2), ("set_arrivals", 0, 30), ("set_per_gate", 9), ("set_max_gates", 6),
            ("set_max_wait", 4), ("remove_last_minute",), ("create", 3, 2, 1),
        )
        calls = [call for change in changes for call in (change, ("get_state",))]
        self.assertEqual(ask_planner(([], 1, 0, 0), *calls)[1::2], [
            [1, 1, 0, 0, 7], [2, 1, 0, 0, 9], [2, 1, 0, 0, 32], [2, 9, 0, 0, 32], [2, 9, 6, 0, 32],
            [2, 9, 6, 4, 32], [1, 9, 6, 4, 30], [0, 3, 2, 1, 0],
        ])


def queries_of_every_kind(plan):
    """Each of the calls 7 to 22, with arguments that it takes and with some that it refuses."""
    length = schedule_length(plan[0], plan[3])
    queries = [*QUERIES, ("min_max_gates",), ("min_max_wait",), ("get_state",)]
    for name in ("is_feasible", "admitted", "queue_lengths", "longest_wait"):
        rows = ([0] * length, [9] * length, [1] * length, [10] * length, [], [1] * 20, [LARGEST_IN_ROW])
        queries.extend((name, row) for row in rows)
    for minute in (0, 1, 9, 10, LARGEST):
        queries.append(("max_arrivals", minute))
        queries.extend(("gate_minutes_if_arrivals", minute, people) for people in (0, 1, 40, 41, LARGEST))
        queries.extend(("total_arrivals", minute, last) for last in (0, 1, 9, 10, LARGEST))
    queries.extend(("gate_minutes_if_max_wait", minutes) for minutes in (0, 1, 6, 7, LARGEST))
    return queries


class Pure(PlannerCase):
    PLANS = (
        ([], 1, 0, 0), ([], 9, 6, 6), ([5, 0], 2, 2, 1), ([3], 1, 1, 0),
        ([40] * 10, 9, 6, 6), ([40] * 10, 1, 0, 0), ([0, 40, 0], 9, 6, 6), ([9, 9, 9], 1, 1, 1),
    )

    def test_each_query_leaves_every_part_of_the_state(self):
        for plan in self.PLANS:
            for query in queries_of_every_kind(plan):
                self.check_query(plan, query, ask_planner(plan, query)[0])

    def test_queries_answer_the_same_again_and_in_any_order(self):
        for plan in self.PLANS:
            queries = queries_of_every_kind(plan)
            once = ask_planner(plan, *queries)
            self.assertEqual(ask_planner(plan, *queries, *queries), once + once, plan)
            self.assertEqual(ask_planner(plan, *reversed(queries)), once[::-1], plan)

    def test_changes_behind_queries_are_answered_as_without_them(self):
        changes = [("set_arrivals", 0, 1), ("set_max_wait", 2), ("add_minute", 6), ("remove_last_minute",)]
        for plan in self.PLANS:
            queries = queries_of_every_kind(plan)
            found = ask_planner(plan, *queries, *changes, ("best_schedule",), ("get_state",))
            expected = ask_planner(plan, *changes, ("best_schedule",), ("get_state",))
            self.assertEqual(found[len(queries):], expected, plan)
