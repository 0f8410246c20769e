"""Sessions of 256 calls of every kind, against a planner that goes by the document's words alone."""

import random
import unittest

from gatehours.planner import answers
from tests.helper import (
    LARGEST,
    LARGEST_IN_ROW,
    MOST_CALLS,
    NUMBERS,
    admission,
    best_by_steps,
    feasible_by_sums,
    flat,
    interval_by_definition,
    longest_by_queue,
    parted,
    schedule_length,
)


class Model:
    """The document's operations, a method each; the plan is (arrivals, per_gate, max_gates, max_wait)."""

    def __init__(self):
        self.plan = None

    def answer(self, call):
        if call[0] != "create" and self.plan is None:
            return [-11]
        return getattr(self, call[0])(*call[1:])

    def with_value(self, place, value):
        return (*self.plan[:place], value, *self.plan[place + 1:])

    def with_arrivals(self, minute, people):
        arrivals = list(self.plan[0])
        arrivals[minute] = people
        return self.with_value(0, arrivals)

    def setting(self, place, value, values):
        if value not in values:
            return [-22]
        previous = self.plan[place]
        self.plan = self.with_value(place, value)
        return [previous]

    def gate_minutes(self, plan):
        best = best_by_steps(*plan)
        return [-33] if best is None else [sum(best)]

    def smallest(self, plans):
        values = [value for value, plan in enumerate(plans) if interval_by_definition(*plan) is None]
        return [min(values, default=-33)]

    def has_form(self, schedule):
        return len(schedule) == schedule_length(self.plan[0], self.plan[3]) and max(schedule, default=0) <= 9

    def create(self, per_gate, max_gates, max_wait):
        if not (1 <= per_gate <= 9 and max_gates <= 6 and max_wait <= 6):
            return [-22]
        self.plan = ([], per_gate, max_gates, max_wait)
        return [0]

    def add_minute(self, arrivals):
        if arrivals > 40:
            return [-22]
        if len(self.plan[0]) == 10:
            return [-28]
        self.plan = self.with_value(0, [*self.plan[0], arrivals])
        return [len(self.plan[0]) - 1]

    def set_arrivals(self, minute, arrivals):
        if minute >= len(self.plan[0]):
            return [-2]
        if arrivals > 40:
            return [-22]
        previous = self.plan[0][minute]
        self.plan = self.with_arrivals(minute, arrivals)
        return [previous]

    def remove_last_minute(self):
        if not self.plan[0]:
            return [-6]
        self.plan = self.with_value(0, self.plan[0][:-1])
        return [len(self.plan[0])]

    def set_per_gate(self, people):
        return self.setting(1, people, range(1, 10))

    def set_max_gates(self, gates):
        return self.setting(2, gates, range(7))

    def set_max_wait(self, minutes):
        return self.setting(3, minutes, range(7))

    def list_arrivals(self):
        return [len(self.plan[0]), *self.plan[0]]

    def best_schedule(self):
        best = best_by_steps(*self.plan)
        return [-33] if best is None else [len(best), *best]

    def min_gate_minutes(self):
        return self.gate_minutes(self.plan)

    def is_possible(self):
        return [1 if interval_by_definition(*self.plan) is None else 0]

    def infeasible_interval(self):
        return interval_by_definition(*self.plan) or [-33]

    def is_feasible(self, schedule):
        if not self.has_form(schedule):
            return [-22]
        return [1 if feasible_by_sums(schedule, *self.plan) else 0]

    def admitted(self, schedule):
        if not self.has_form(schedule):
            return [-22]
        return [len(schedule), *admission(schedule, *self.plan[:2])[0]]

    def queue_lengths(self, schedule):
        if not self.has_form(schedule):
            return [-22]
        return [len(schedule), *admission(schedule, *self.plan[:2])[1]]

    def longest_wait(self, schedule):
        if not self.has_form(schedule):
            return [-22]
        longest = longest_by_queue(schedule, *self.plan[:2])
        return [-33] if longest is None else [longest]

    def min_max_gates(self):
        return self.smallest([self.with_value(2, gates) for gates in range(7)])

    def min_max_wait(self):
        return self.smallest([self.with_value(3, minutes) for minutes in range(7)])

    def gate_minutes_if_arrivals(self, minute, arrivals):
        if minute >= len(self.plan[0]):
            return [-2]
        if arrivals > 40:
            return [-22]
        return self.gate_minutes(self.with_arrivals(minute, arrivals))

    def gate_minutes_if_max_wait(self, minutes):
        if minutes > 6:
            return [-22]
        return self.gate_minutes(self.with_value(3, minutes))

    def max_arrivals(self, minute):
        if minute >= len(self.plan[0]):
            return [-2]
        if interval_by_definition(*self.plan) is not None:
            return [-33]
        plans = [self.with_arrivals(minute, people) for people in range(41)]
        return [max(people for people, plan in enumerate(plans) if interval_by_definition(*plan) is None)]

    def total_arrivals(self, first, last):
        if max(first, last) >= len(self.plan[0]):
            return [-2]
        return [sum(self.plan[0][first:last + 1])]

    def get_state(self):
        return [len(self.plan[0]), *self.plan[1:], sum(self.plan[0])]


def some_number(source, most):
    """Mostly from 0 to the most, at times just above it or as large as it can be handed in."""
    return source.choice((source.randint(0, most), source.randint(0, most), source.randint(0, most), most + 1, LARGEST))


def some_row(source, model):
    """Mostly a row that the planner takes, at times of another length or with too large a number."""
    length = schedule_length(model.plan[0], model.plan[3]) if model.plan else 1
    if source.random() < 0.2:
        length = source.randint(0, 20)
    row = [source.randint(0, source.choice((1, 6, 9))) for minute in range(length)]
    if row and source.random() < 0.1:
        row[source.randrange(length)] = source.choice((10, LARGEST_IN_ROW))
    return row


def some_arguments(source, name, model):
    count = len(model.plan[0]) if model.plan else 1
    minute = some_number(source, max(0, count - 1))
    people = some_number(source, source.choice((6, 12, 40)))
    gates_or_wait = some_number(source, 6)
    arguments = {
        "create": (some_number(source, 9), gates_or_wait, some_number(source, 6)),
        "add_minute": (people,),
        "set_arrivals": (minute, people),
        "set_per_gate": (some_number(source, 9),),
        "set_max_gates": (gates_or_wait,),
        "set_max_wait": (gates_or_wait,),
        "gate_minutes_if_arrivals": (minute, people),
        "gate_minutes_if_max_wait": (gates_or_wait,),
        "max_arrivals": (minute,),
        "total_arrivals": (minute, some_number(source, max(0, count - 1))),
    }
    if name in ("is_feasible", "admitted", "queue_lengths", "longest_wait"):
        return (some_row(source, model),)
    return arguments.get(name, ())


def some_session(source):
    """256 calls and what the model answers: a planner soon, few that replace it, and more minutes come than go."""
    first_names = [*NUMBERS] + ["create"] * 30
    later_names = [name for name in NUMBERS if name != "create"] * 4 + ["add_minute"] * 10 + ["create"]
    model = Model()
    calls = []
    expected = []
    while len(calls) < MOST_CALLS:
        name = source.choice(later_names if model.plan else first_names)
        calls.append((name, *some_arguments(source, name, model)))
        expected.append(model.answer(calls[-1]))
    return calls, expected


class Sessions(unittest.TestCase):
    def test_256_calls_of_every_kind(self):
        source = random.Random(14)
        refused = set()
        answered = set()
        for session in range(100):
            calls, expected = some_session(source)
            numbers = flat(calls)
            before = list(numbers)
            found = answers(numbers)
            self.assertEqual(numbers, before)
            self.assertEqual(found, answers(numbers))
            self.assertEqual({type(number) for number in found}, {int})
            for call, answer, wanted in zip(calls, parted(found), expected):
                self.assertEqual(answer, wanted, (calls, call))
                (refused if wanted[0] < 0 else answered).add((call[0], min(0, wanted[0])))
            self.assertEqual(len(parted(found)), len(expected))
        self.assertEqual({name for name, code in answered}, set(NUMBERS))
        self.assertEqual(refused, self.every_refusal())

    def every_refusal(self):
        """Each error that the document names for each call."""
        codes = {
            "create": [-22], "add_minute": [-22, -28], "set_arrivals": [-2, -22], "remove_last_minute": [-6],
            "set_per_gate": [-22], "set_max_gates": [-22], "set_max_wait": [-22], "best_schedule": [-33],
            "min_gate_minutes": [-33], "infeasible_interval": [-33], "is_feasible": [-22], "admitted": [-22],
            "queue_lengths": [-22], "longest_wait": [-22, -33], "min_max_gates": [-33], "min_max_wait": [-33],
            "gate_minutes_if_arrivals": [-2, -22, -33], "gate_minutes_if_max_wait": [-22, -33],
            "max_arrivals": [-2, -33], "total_arrivals": [-2],
        }
        without_planner = {(name, -11) for name in NUMBERS if name != "create"}
        return without_planner | {(name, code) for name in codes for code in codes[name]}
