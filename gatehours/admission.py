"""What becomes of the people under a given schedule, first come first served.

The schedule has the length that the planner's schedules have; `max_gates` doesn't matter.
"""

from gatehours.schedules import arrivals_between


def arrived_by(planner, minute):
    """How many people have arrived by the end of the minute; nobody arrives behind the last one that is given."""
    return arrivals_between(planner, 0, minute)


def people_admitted(planner, schedule):
    """How many people are admitted in each minute."""
    people = []
    for minute in range(len(schedule)):
        queue = arrived_by(planner, minute) - sum(people)
        people.append(min(queue, planner.per_gate * schedule[minute]))
    return people


def people_waiting(planner, schedule):
    """How many people still wait at the end of each minute."""
    people = people_admitted(planner, schedule)
    return [arrived_by(planner, minute) - sum(people[:minute + 1]) for minute in range(len(people))]


def minute_of_admission(planner, people, minute):
    """The minute in which the last one of those who have arrived by the given minute is admitted; None if in none.

    Who comes first is admitted first, so by then as many are admitted as had arrived by the given minute.
    """
    for later in range(minute, len(people)):
        if sum(people[:later + 1]) >= arrived_by(planner, minute):
            return later
    return None


def longest_waiting_time(planner, schedule):
    """The longest waiting time of a person, 0 if nobody arrives; None if somebody isn't admitted.

    Of those who arrive in one minute the last one waits longest, so only this one is asked for.
    """
    people = people_admitted(planner, schedule)
    longest = 0
    for minute in range(len(planner.arrivals)):
        if planner.arrivals[minute] > 0:
            later = minute_of_admission(planner, people, minute)
            if later is None:
                return None
            longest = max(longest, later - minute)
    return longest
