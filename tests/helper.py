"""What the tests share: calls by name, planners to try, and the document's definitions gone through the long way."""

import itertools
import random
import unittest

from gatehours.planner import answers

NUMBERS = {
    "create": 0,
    "add_minute": 1,
    "set_arrivals": 2,
    "remove_last_minute": 3,
    "set_per_gate": 4,
    "set_max_gates": 5,
    "set_max_wait": 6,
    "list_arrivals": 7,
    "best_schedule": 8,
    "min_gate_minutes": 9,
    "is_possible": 10,
    "infeasible_interval": 11,
    "is_feasible": 12,
    "admitted": 13,
    "queue_lengths": 14,
    "longest_wait": 15,
    "min_max_gates": 16,
    "min_max_wait": 17,
    "gate_minutes_if_arrivals": 18,
    "gate_minutes_if_max_wait": 19,
    "max_arrivals": 20,
    "total_arrivals": 21,
    "get_state": 22,
}
LARGEST = 4294967295
LARGEST_IN_ROW = 65535
MOST_CALLS = 256


def flat(calls):
    """Calls like ("create", 2, 2, 1) or ("admitted", [1, 2, 0]) as the one list that the interface takes."""
    numbers = []
    for call in calls:
        numbers.append(NUMBERS[call[0]])
        for argument in call[1:]:
            if isinstance(argument, list):
                numbers.append(len(argument))
                numbers.extend(argument)
            else:
                numbers.append(argument)
    return numbers


def parted(numbers):
    """The interface's list as one list for each answer."""
    parts = []
    place = 0
    while place < len(numbers):
        after = place + 1 + numbers[place]
        parts.append(numbers[place + 1:after])
        place = after
    if place != len(numbers):
        raise AssertionError("the last answer is cut short: " + repr(numbers))
    return parts


def ask(*calls):
    """The answers of one session, a list for each call."""
    if not 1 <= len(calls) <= MOST_CALLS:
        raise AssertionError(f"a session has no {len(calls)} calls")
    parts = parted(answers(flat(calls)))
    if len(parts) != len(calls):
        raise AssertionError(f"{len(calls)} calls, but {len(parts)} answers")
    return parts


def building(arrivals, per_gate, max_gates, max_wait):
    """The calls that build a planner."""
    return [("create", per_gate, max_gates, max_wait)] + [("add_minute", people) for people in arrivals]


def ask_planner(plan, *calls):
    """The answers of calls on a planner, given as (arrivals, per_gate, max_gates, max_wait)."""
    first = building(*plan)
    return ask(*first, *calls)[len(first):]


def ask_planner_many(plan, calls):
    """The same of any number of calls that leave the planner as it is, in as many sessions as they take."""
    most = MOST_CALLS - len(building(*plan))
    found = []
    for start in range(0, len(calls), most):
        found.extend(ask_planner(plan, *calls[start:start + most]))
    return found


# Calls that answer every part of a state.
PROBES = (("get_state",), ("list_arrivals",))


def probed(arrivals, per_gate, max_gates, max_wait):
    """What the probes answer in the given state."""
    return [[len(arrivals), per_gate, max_gates, max_wait, sum(arrivals)], [len(arrivals), *arrivals]]


class PlannerCase(unittest.TestCase):
    def check_change(self, plan, call, answered, after):
        """The call is answered so, and leaves the planner so."""
        found = ask_planner(plan, *PROBES, call, *PROBES)
        self.assertEqual(found, probed(*plan) + [answered] + probed(*after), (plan, call))

    def check_query(self, plan, call, answered):
        """The call is answered so, and every part of the state is what it was."""
        self.check_change(plan, call, answered, plan)

    def check_refusal(self, plan, call, code):
        """The call is refused so, and every part of the state is what it was."""
        self.check_query(plan, call, [code])


def every_small_plan(most_minutes):
    """Up to so many minutes with up to three people each, and all small settings."""
    for count in range(most_minutes + 1):
        for arrivals in itertools.product(range(4), repeat=count):
            for settings in itertools.product((1, 2, 3), (0, 1, 2), (0, 1, 2)):
                yield (list(arrivals), *settings)


def some_plans(seed, wanted, most_schedules=7 ** 16):
    """Planners from all of the ranges, the crowds of which lie about what their gates can admit."""
    source = random.Random(seed)
    plans = []
    while len(plans) < wanted:
        count = source.randint(1, 10)
        per_gate, max_gates, max_wait = source.randint(1, 9), source.randint(0, 6), source.randint(0, 6)
        most = min(40, source.choice((1, 1, 2, 3)) * (per_gate * max_gates + 1))
        arrivals = [source.choice((0, source.randint(0, most), source.randint(0, most))) for minute in range(count)]
        if (max_gates + 1) ** (count + max_wait) <= most_schedules:
            plans.append((arrivals, per_gate, max_gates, max_wait))
    return plans


def plans_at_the_limits():
    """Full, empty and uneven crowds with the settings at the ends of their ranges."""
    crowds = (
        [40] * 10, [0] * 10, [40] + [0] * 9, [0] * 9 + [40], [40, 0] * 5, [0, 40] * 5,
        [0] * 5 + [40] * 5, [40] * 5 + [0] * 5, list(range(31, 41)), [40] * 9, [40],
    )
    return [(crowd, *rest) for crowd in crowds for rest in itertools.product((1, 9), (0, 6), (0, 6))]


def schedule_length(arrivals, max_wait):
    return len(arrivals) + max_wait if arrivals else 0


def admission(schedule, arrivals, per_gate):
    """Who is admitted in each minute, who waits at its end, and how long each one who is admitted has waited.

    People go one by one, first come first served; of the first two there is the number for each minute.
    """
    queue = []
    admitted = []
    waiting = []
    waits = []
    for minute, gates in enumerate(schedule):
        if minute < len(arrivals):
            queue.extend([minute] * arrivals[minute])
        admitted.append(min(len(queue), per_gate * gates))
        waits.extend(minute - arrived for arrived in queue[:admitted[minute]])
        queue = queue[admitted[minute]:]
        waiting.append(len(queue))
    return admitted, waiting, waits


def longest_by_queue(schedule, arrivals, per_gate):
    """The longest waiting time, 0 if nobody arrives; None if somebody isn't admitted."""
    waits = admission(schedule, arrivals, per_gate)[2]
    return max(waits, default=0) if len(waits) == sum(arrivals) else None


def feasible_by_queue(schedule, arrivals, per_gate, max_gates, max_wait):
    longest = longest_by_queue(schedule, arrivals, per_gate)
    return max(schedule, default=0) <= max_gates and longest is not None and longest <= max_wait


def feasible_by_sums(schedule, arrivals, per_gate, max_gates, max_wait):
    return max(schedule, default=0) <= max_gates and all(
        sum(arrivals[s:t + 1]) <= per_gate * sum(schedule[s:t + max_wait + 1])
        for t in range(len(arrivals))
        for s in range(t + 1)
    )


def prefix_sums(schedule):
    return list(itertools.accumulate(schedule, initial=0))


def best_of_all(arrivals, per_gate, max_gates, max_wait):
    """The best schedule by trying every one; None if none is feasible."""
    plan = (arrivals, per_gate, max_gates, max_wait)
    feasible = []
    for schedule in itertools.product(range(max_gates + 1), repeat=schedule_length(arrivals, max_wait)):
        by_queue = feasible_by_queue(schedule, *plan)
        if by_queue != feasible_by_sums(schedule, *plan):
            raise AssertionError(f"the two definitions of feasible differ: {schedule} {plan}")
        if by_queue:
            feasible.append(list(schedule))
    if not feasible:
        return None
    fewest = min(sum(schedule) for schedule in feasible)
    sums = [prefix_sums(schedule) for schedule in feasible if sum(schedule) == fewest]
    least = [min(column) for column in zip(*sums)]
    if sums.count(least) != 1:
        raise AssertionError(f"not one latest schedule: {plan}")
    return [after - before for before, after in zip(least, least[1:])]


def best_by_steps(arrivals, per_gate, max_gates, max_wait):
    """The best schedule by going through how many people can have been admitted by each minute.

    It takes no schedule as a whole and uses no interval, so it reaches planners too large to try every schedule.
    """
    length = schedule_length(arrivals, max_wait)
    ahead = [{0: 0}]
    steps = []
    for minute in range(length):
        arrived = sum(arrivals[:minute + 1])
        due = sum(arrivals[:max(0, minute - max_wait + 1)])
        steps.append([])
        ahead.append({})
        for before, spent in ahead[minute].items():
            for gates in range(max_gates + 1):
                after = min(arrived, before + per_gate * gates)
                if after >= due:
                    steps[minute].append((before, gates, after))
                    ahead[minute + 1][after] = min(spent + gates, ahead[minute + 1].get(after, spent + gates))
    behind = {admitted: 0 for admitted in ahead[length]}
    if not behind:
        return None
    fewest = min(ahead[length].values())
    least = [fewest]
    for minute in reversed(range(length)):
        earlier = {}
        for before, gates, after in steps[minute]:
            if after in behind:
                earlier[before] = min(gates + behind[after], earlier.get(before, gates + behind[after]))
        behind = earlier
        least.insert(0, min(ahead[minute][at] for at in behind if ahead[minute][at] + behind[at] == fewest))
    return [after - before for before, after in zip(least, least[1:])]


def interval_by_definition(arrivals, per_gate, max_gates, max_wait):
    """The infeasible interval with the smallest last, then the smallest first, and its arrivals; None if none."""
    found = []
    for first in range(len(arrivals)):
        for last in range(first, len(arrivals)):
            people = sum(arrivals[first:last + 1])
            if people > per_gate * max_gates * (last + max_wait + 1 - first):
                found.append((last, first, people))
    if not found:
        return None
    last, first, people = min(found)
    return [first, last, people]
