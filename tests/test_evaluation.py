"""The calls that evaluate a given schedule: by hand, and against the document's "Admission" person by person."""

import itertools
import random
import unittest

from tests.helper import (
    LARGEST_IN_ROW,
    PlannerCase,
    admission,
    ask_planner,
    ask_planner_many,
    best_by_steps,
    every_small_plan,
    feasible_by_queue,
    feasible_by_sums,
    longest_by_queue,
    plans_at_the_limits,
    schedule_length,
    some_plans,
)

EVALUATIONS = ("is_feasible", "admitted", "queue_lengths", "longest_wait")
SMALL = ([5, 0, 3], 2, 3, 1)


def evaluating(schedule):
    """The four calls that evaluate the schedule."""
    return [(name, list(schedule)) for name in EVALUATIONS]


class EvaluationCase(PlannerCase):
    def check_schedule(self, plan, schedule, feasible, admitted, waiting, longest):
        """The four calls answer so, and leave the planner as it is."""
        answered = ([feasible], [len(schedule), *admitted], [len(schedule), *waiting], [longest])
        for call, numbers in zip(evaluating(schedule), answered):
            self.check_query(plan, call, numbers)

    def check_refused(self, plan, schedule):
        """The four calls are refused, as the list doesn't have the form of a schedule."""
        self.assertEqual(ask_planner(plan, *evaluating(schedule)), [[-22]] * 4, (plan, schedule))


class Length(EvaluationCase):
    def test_every_length_but_the_right_one(self):
        for plan in (SMALL, ([5, 0, 3], 2, 3, 0), ([5, 0, 3], 9, 6, 6), ([0], 1, 0, 0), ([40] * 10, 9, 6, 6)):
            right = schedule_length(plan[0], plan[3])
            for length in range(21):
                for gates in (0, 1, 9):
                    found = ask_planner(plan, *evaluating([gates] * length))
                    self.assertEqual([answer == [-22] for answer in found], [length != right] * 4, (plan, length))

    def test_every_number_of_minutes_and_every_wait(self):
        for count in range(1, 11):
            for max_wait in range(7):
                plan = ([0] * count, 1, 0, max_wait)
                length = count + max_wait
                self.check_schedule(plan, [0] * length, 1, [0] * length, [0] * length, 0)
                self.check_refused(plan, [0] * (length - 1))
                self.check_refused(plan, [0] * (length + 1))
                if max_wait > 0:
                    self.check_refused(plan, [0] * count)

    def test_without_minutes_every_row_but_the_empty_one(self):
        for max_wait in range(7):
            for max_gates in (0, 6):
                plan = ([], 1, max_gates, max_wait)
                self.check_schedule(plan, [], 1, [], [], 0)
                for length in range(1, 21):
                    self.check_refused(plan, [0] * length)
                    self.check_refused(plan, [1] * length)

    def test_the_length_follows_the_planner(self):
        calls = [
            ("admitted", [0, 0, 0, 0]), ("remove_last_minute",), ("admitted", [0, 0, 0, 0]), ("admitted", [0, 0, 0]),
            ("set_max_wait", 2), ("admitted", [0, 0, 0]), ("admitted", [0, 0, 0, 0]),
        ]
        self.assertEqual(ask_planner(SMALL, *calls), [
            [4, 0, 0, 0, 0], [2], [-22], [3, 0, 0, 0], [1], [-22], [4, 0, 0, 0, 0],
        ])

    def test_a_refusal_leaves_the_state(self):
        for name in EVALUATIONS:
            for row in ([], [0], [0] * 3, [0] * 5, [0] * 20, [10] * 4, [LARGEST_IN_ROW] * 20):
                self.check_refusal(SMALL, (name, row), -22)


class InTheRow(EvaluationCase):
    def test_nine_is_the_most_in_each_place(self):
        for place in range(4):
            for gates in (10, 11, LARGEST_IN_ROW):
                for others in (0, 3, 9):
                    row = [others] * 4
                    row[place] = gates
                    self.check_refused(SMALL, row)
        self.check_schedule(SMALL, [9, 0, 0, 0], 0, [5, 0, 0, 0], [0, 0, 3, 3], -33)
        self.check_schedule(SMALL, [0, 9, 0, 0], 0, [0, 5, 0, 0], [5, 0, 3, 3], -33)
        self.check_schedule(SMALL, [0, 0, 9, 0], 0, [0, 0, 8, 0], [5, 5, 0, 0], 2)
        self.check_schedule(SMALL, [0, 0, 0, 9], 0, [0, 0, 0, 8], [5, 5, 8, 0], 3)

    def test_nine_and_ten_at_the_limits(self):
        plan = ([40] * 10, 9, 6, 6)
        self.check_schedule(plan, [9] * 16, 0, [40] * 10 + [0] * 6, [0] * 16, 0)
        self.check_refused(plan, [9] * 15 + [10])
        self.check_refused(plan, [10] + [9] * 15)
        self.check_refused(plan, [LARGEST_IN_ROW] * 16)

    def test_the_wrong_length_and_too_large_a_number(self):
        for length in (1, 3, 5, 20):
            self.check_refused(SMALL, [10] * length)
            self.check_refused(([], 2, 3, 1), [LARGEST_IN_ROW] * length)

    def test_the_form_comes_before_who_is_not_admitted(self):
        for row in ([0], [0] * 3, [0] * 5, [0, 0, 0, 10], [10, 0, 0, 0]):
            self.check_refusal(SMALL, ("longest_wait", row), -22)
        self.check_refusal(SMALL, ("longest_wait", [0] * 4), -33)


class AboveMaxGates(EvaluationCase):
    def test_only_is_feasible_asks_for_max_gates(self):
        for max_gates in range(7):
            feasible = 1 if max_gates >= 3 else 0
            self.check_schedule(([5, 0], 2, max_gates, 1), [0, 3, 0], feasible, [0, 5, 0], [5, 0, 0], 1)

    def test_one_more_than_max_gates_in_each_place(self):
        plan = ([4, 4, 4], 2, 2, 0)
        self.check_schedule(plan, [2, 2, 2], 1, [4, 4, 4], [0, 0, 0], 0)
        for place in range(3):
            row = [2, 2, 2]
            row[place] = 3
            self.check_schedule(plan, row, 0, [4, 4, 4], [0, 0, 0], 0)

    def test_a_gate_too_many_where_nobody_waits(self):
        self.check_schedule(([0, 0], 1, 1, 1), [0, 1, 1], 1, [0, 0, 0], [0, 0, 0], 0)
        self.check_schedule(([0, 0], 1, 1, 1), [0, 0, 2], 0, [0, 0, 0], [0, 0, 0], 0)

    def test_no_gates(self):
        self.check_schedule(([0], 1, 0, 0), [0], 1, [0], [0], 0)
        self.check_schedule(([0], 1, 0, 0), [1], 0, [0], [0], 0)
        self.check_schedule(([5], 1, 0, 0), [0], 0, [0], [5], -33)
        self.check_schedule(([5], 1, 0, 0), [5], 0, [5], [0], 0)
        self.check_schedule(([5, 1], 3, 0, 1), [1, 0, 9], 0, [3, 0, 3], [2, 3, 0], 2)


class LongestWait(EvaluationCase):
    def test_nobody_arrives(self):
        for plan in (([], 1, 6, 6), ([0], 1, 6, 6), ([0] * 10, 9, 6, 6)):
            length = schedule_length(plan[0], plan[3])
            for gates in (0, 1, 6):
                self.check_schedule(plan, [gates] * length, 1, [0] * length, [0] * length, 0)

    def test_minutes_in_which_nobody_arrives(self):
        # Who arrives in minute 3 is admitted at once; the minutes before it have no person who waits until then.
        self.check_schedule(([0, 0, 0, 2], 2, 1, 0), [0, 0, 0, 1], 1, [0, 0, 0, 2], [0, 0, 0, 0], 0)
        self.check_schedule(([2, 0, 0, 2], 2, 1, 0), [1, 0, 0, 1], 1, [2, 0, 0, 2], [0, 0, 0, 0], 0)
        self.check_schedule(([2, 0, 0], 2, 1, 2), [0, 0, 1, 0, 0], 1, [0, 0, 2, 0, 0], [2, 2, 0, 0, 0], 2)

    def test_a_wait_as_long_as_the_limit_and_one_longer(self):
        for max_wait in range(7):
            # The second minute, in which nobody arrives, makes room for a wait beyond the limit.
            plan = ([1, 0], 1, 1, max_wait)
            for wait in range(max_wait + 2):
                row = [0] * (max_wait + 2)
                row[wait] = 1
                waiting = [1] * wait + [0] * (max_wait + 2 - wait)
                self.check_schedule(plan, row, 1 if wait <= max_wait else 0, row, waiting, wait)

    def test_one_person_is_left(self):
        self.check_schedule(([5], 2, 6, 1), [1, 2], 1, [2, 3], [3, 0], 1)
        self.check_schedule(([5], 2, 6, 1), [1, 1], 0, [2, 2], [3, 1], -33)
        self.check_schedule(([0, 1], 1, 6, 0), [9, 0], 0, [0, 0], [0, 1], -33)

    def test_gates_without_a_queue_do_not_help_later(self):
        self.check_schedule(([0, 4], 1, 6, 1), [6, 2, 2], 1, [0, 2, 2], [0, 2, 0], 1)
        self.check_schedule(([1, 4], 1, 6, 1), [6, 2, 1], 0, [1, 2, 1], [0, 2, 1], -33)

    def test_first_come_first_served(self):
        # The two of minute 0 wait two minutes; the later ones are admitted behind them.
        self.check_schedule(([2, 2, 2], 2, 6, 2), [0, 0, 1, 1, 1], 1, [0, 0, 2, 2, 2], [2, 4, 4, 2, 0], 2)
        self.check_schedule(([2, 2, 2], 2, 6, 1), [0, 1, 1, 1], 1, [0, 2, 2, 2], [2, 2, 2, 0], 1)
        self.check_schedule(([2, 2, 2], 2, 6, 1), [0, 0, 1, 2], 0, [0, 0, 2, 4], [2, 4, 4, 0], 2)

    def test_the_longest_wait_there_is(self):
        self.check_schedule(([1] + [0] * 9, 1, 6, 6), [0] * 15 + [1], 0, [0] * 15 + [1], [1] * 15 + [0], 15)

    def test_every_gate_minute_is_needed(self):
        plan = ([40, 8] + [6] * 8, 1, 6, 6)
        waiting = [34] + [36] * 9 + [30, 24, 18, 12, 6, 0]
        self.check_schedule(plan, [6] * 16, 1, [6] * 16, waiting, 6)
        self.check_query(plan, ("best_schedule",), [16] + [6] * 16)
        self.check_query(plan, ("is_feasible", [6] * 15 + [5]), [0])
        self.check_query(plan, ("longest_wait", [6] * 15 + [5]), [-33])


class PersonByPerson(unittest.TestCase):
    def check_rows(self, plan, rows):
        """The four calls on each row, against people who are admitted one by one; answers which kinds came up."""
        arrivals, per_gate, max_gates, max_wait = plan
        calls = [call for row in rows for call in evaluating(row)]
        found = ask_planner_many(plan, calls)
        kinds = set()
        for place, row in enumerate(rows):
            people, waiting, waits = admission(row, arrivals, per_gate)
            longest = longest_by_queue(row, arrivals, per_gate)
            feasible = feasible_by_queue(row, *plan)
            self.assertEqual(feasible, feasible_by_sums(row, *plan), (plan, row))
            expected = [
                [1 if feasible else 0],
                [len(row), *people],
                [len(row), *waiting],
                [-33] if longest is None else [longest],
            ]
            self.assertEqual(found[4 * place:4 * place + 4], expected, (plan, row))
            self.check_everybody_is_admitted(plan, found[4 * place:4 * place + 4])
            kinds.add((feasible, longest is None, max(row, default=0) > max_gates))
        return kinds

    def check_everybody_is_admitted(self, plan, found):
        """What the four answers have to say of each other."""
        feasible, people, waiting, longest = found
        left = waiting[-1] if len(waiting) > 1 else 0
        self.assertEqual(sum(people[1:]) + left, sum(plan[0]), plan)
        self.assertEqual(longest == [-33], left > 0, plan)
        if feasible == [1]:
            self.assertEqual(sum(people[1:]), sum(plan[0]), plan)
            self.assertIn(longest[0], range(plan[3] + 1), plan)

    # Feasible or not, somebody left or not, above max_gates or not, as far as these go together.
    EVERY_KIND = {
        (True, False, False), (False, False, False), (False, True, False), (False, False, True), (False, True, True),
    }

    def test_every_row_of_every_small_planner(self):
        kinds = set()
        for plan in every_small_plan(2):
            length = schedule_length(plan[0], plan[3])
            kinds |= self.check_rows(plan, list(itertools.product(range(plan[2] + 2), repeat=length)))
        self.assertEqual(kinds, self.EVERY_KIND)

    def some_rows(self, source, plan, wanted):
        """Rows of the right length, few and many gates among them, and some about the planner's best schedule."""
        length = schedule_length(plan[0], plan[3])
        most = [source.choice((1, 2, plan[2], plan[2] + 1, 9)) for row in range(wanted)]
        rows = [[source.randint(0, most[place]) for minute in range(length)] for place in range(wanted)]
        best = best_by_steps(*plan)
        if best:
            for minute in range(length):
                row = list(best)
                row[minute] = max(0, row[minute] - 1)
                rows.append(row)
                # The gate-minute that is taken from one minute comes back in another.
                moved = list(row)
                other = source.randrange(length)
                moved[other] = min(9, moved[other] + 1)
                rows.append(moved)
            rows.append(best)
        return rows

    def test_some_rows_of_planners_of_any_size(self):
        source = random.Random(5)
        kinds = set()
        for plan in some_plans(6, 300):
            kinds |= self.check_rows(plan, self.some_rows(source, plan, 30))
        self.assertEqual(kinds, self.EVERY_KIND)

    def test_some_rows_of_planners_at_the_limits(self):
        source = random.Random(7)
        kinds = set()
        for plan in plans_at_the_limits():
            kinds |= self.check_rows(plan, self.some_rows(source, plan, 30))
        self.assertEqual(kinds, self.EVERY_KIND)

    def test_the_best_schedule_is_feasible_and_none_with_a_gate_minute_less_is(self):
        for plan in some_plans(8, 300):
            best = ask_planner(plan, ("best_schedule",))[0]
            if best != [-33]:
                rows = [best[1:]]
                for minute in range(best[0]):
                    if best[1 + minute] > 0:
                        rows.append(best[1:])
                        rows[-1][minute] -= 1
                found = ask_planner(plan, *[("is_feasible", row) for row in rows])
                self.assertEqual(found, [[1]] + [[0]] * (len(rows) - 1), plan)
