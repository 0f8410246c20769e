"""What the tests share: calls by name, and the document's definitions gone through the long way."""

import itertools

from gatehours.planner import answers

NUMBERS = {
    "create": 0,
    "add_minute": 1,
    "set_arrivals": 2,
    "remove_last_minute": 3,
    "set_per_gate": 4,
    "set_max_gates": 5,
    "set_max_wait": 6,
    "list_arrivals": 7,
    "best_schedule": 8,
    "min_gate_minutes": 9,
    "is_possible": 10,
    "infeasible_interval": 11,
}
LARGEST = 4294967295


def flat(calls):
    """Calls like ("create", 2, 2, 1) as the one list that the interface takes."""
    numbers = []
    for call in calls:
        numbers.append(NUMBERS[call[0]])
        numbers.extend(call[1:])
    return numbers


def parted(numbers):
    """The interface's list as one list for each answer."""
    parts = []
    place = 0
    while place < len(numbers):
        after = place + 1 + numbers[place]
        parts.append(numbers[place + 1:after])
        place = after
    if place != len(numbers):
        raise AssertionError("the last answer is cut short: " + repr(numbers))
    return parts


def ask(*calls):
    """The answers of one session, a list for each call."""
    parts = parted(answers(flat(calls)))
    if len(parts) != len(calls):
        raise AssertionError(f"{len(calls)} calls, but {len(parts)} answers")
    return parts


def building(arrivals, per_gate, max_gates, max_wait):
    """The calls that build a planner."""
    return [("create", per_gate, max_gates, max_wait)] + [("add_minute", people) for people in arrivals]


def ask_planner(plan, *calls):
    """The answers of calls on a planner, given as (arrivals, per_gate, max_gates, max_wait)."""
    first = building(*plan)
    return ask(*first, *calls)[len(first):]


def probing(arrivals, per_gate, max_gates, max_wait):
    """Calls that answer every part of a state; where the state is the given one they leave it so."""
    return [
        ("list_arrivals",),
        ("set_per_gate", per_gate),
        ("set_max_gates", max_gates),
        ("set_max_wait", max_wait),
    ]


def probed(arrivals, per_gate, max_gates, max_wait):
    """What the probing calls answer in the given state."""
    return [[len(arrivals), *arrivals], [per_gate], [max_gates], [max_wait]]


def schedule_length(arrivals, max_wait):
    return len(arrivals) + max_wait if arrivals else 0


def waits(schedule, arrivals, per_gate):
    """How long each person waits, admitted one by one, first come first served; None if somebody isn't admitted."""
    queue = []
    found = []
    for minute, gates in enumerate(schedule):
        if minute < len(arrivals):
            queue.extend([minute] * arrivals[minute])
        admitted = min(len(queue), per_gate * gates)
        found.extend(minute - arrived for arrived in queue[:admitted])
        queue = queue[admitted:]
    return None if queue else found


def feasible_by_queue(schedule, arrivals, per_gate, max_gates, max_wait):
    found = waits(schedule, arrivals, per_gate)
    return max(schedule, default=0) <= max_gates and found is not None and max(found, default=0) <= max_wait


def feasible_by_sums(schedule, arrivals, per_gate, max_gates, max_wait):
    return max(schedule, default=0) <= max_gates and all(
        sum(arrivals[s:t + 1]) <= per_gate * sum(schedule[s:t + max_wait + 1])
        for t in range(len(arrivals))
        for s in range(t + 1)
    )


def prefix_sums(schedule):
    return list(itertools.accumulate(schedule, initial=0))


def best_of_all(arrivals, per_gate, max_gates, max_wait):
    """The best schedule by trying every one; None if none is feasible."""
    plan = (arrivals, per_gate, max_gates, max_wait)
    feasible = []
    for schedule in itertools.product(range(max_gates + 1), repeat=schedule_length(arrivals, max_wait)):
        by_queue = feasible_by_queue(schedule, *plan)
        if by_queue != feasible_by_sums(schedule, *plan):
            raise AssertionError(f"the two definitions of feasible differ: {schedule} {plan}")
        if by_queue:
            feasible.append(list(schedule))
    if not feasible:
        return None
    fewest = min(sum(schedule) for schedule in feasible)
    sums = [prefix_sums(schedule) for schedule in feasible if sum(schedule) == fewest]
    least = [min(column) for column in zip(*sums)]
    if sums.count(least) != 1:
        raise AssertionError(f"not one latest schedule: {plan}")
    return [after - before for before, after in zip(least, least[1:])]


def best_by_steps(arrivals, per_gate, max_gates, max_wait):
    """The best schedule by going through how many people can have been admitted by each minute.

    It takes no schedule as a whole and uses no interval, so it reaches planners too large to try every schedule.
    """
    length = schedule_length(arrivals, max_wait)
    ahead = [{0: 0}]
    steps = []
    for minute in range(length):
        arrived = sum(arrivals[:minute + 1])
        due = sum(arrivals[:max(0, minute - max_wait + 1)])
        steps.append([])
        ahead.append({})
        for before, spent in ahead[minute].items():
            for gates in range(max_gates + 1):
                after = min(arrived, before + per_gate * gates)
                if after >= due:
                    steps[minute].append((before, gates, after))
                    ahead[minute + 1][after] = min(spent + gates, ahead[minute + 1].get(after, spent + gates))
    behind = {admitted: 0 for admitted in ahead[length]}
    if not behind:
        return None
    fewest = min(ahead[length].values())
    least = [fewest]
    for minute in reversed(range(length)):
        earlier = {}
        for before, gates, after in steps[minute]:
            if after in behind:
                earlier[before] = min(gates + behind[after], earlier.get(before, gates + behind[after]))
        behind = earlier
        least.insert(0, min(ahead[minute][at] for at in behind if ahead[minute][at] + behind[at] == fewest))
    return [after - before for before, after in zip(least, least[1:])]


def interval_by_definition(arrivals, per_gate, max_gates, max_wait):
    """The infeasible interval with the smallest last, then the smallest first, and its arrivals; None if none."""
    found = []
    for first in range(len(arrivals)):
        for last in range(first, len(arrivals)):
            people = sum(arrivals[first:last + 1])
            if people > per_gate * max_gates * (last + max_wait + 1 - first):
                found.append((last, first, people))
    if not found:
        return None
    last, first, people = min(found)
    return [first, last, people]
