"""Orders of the people of a line, and the people to train."""

from bucketline.checks import check_number
from bucketline.errors import TooManyPeople
from bucketline.lines import Line, durations_of

MAX_ORDERED = 7
MAX_GOAL = 2000


def good_line(line):
    """Return a line of the same people with the least pace."""
    # Who stands between two others makes a turn of at least twice their pace.
    # So only the two at the ends can have more than half of the least pace, and
    # three people of at most half of it are never too slow. What remains are
    # the two people next to each end: the slowest one needs the two fastest
    # there, the second slowest one the two fastest of the others.
    by_pace = sorted([(pace, name) for name, pace in line.people])
    people = [(name, pace) for pace, name in by_pace]
    between = people[:-2]
    order = [people[-1], *between[:2], *between[4:], *between[2:4], people[-2]]
    return Line(*order)


def least_pace(line):
    """Return the least pace of all lines of the same people."""
    return good_line(line).pace


def first_order(order, others, pace):
    """Return the first order of all that begins so and has at most a pace, or None."""
    if not others:
        return order
    for place, person in enumerate(others):
        longer = [*order, person]
        # One or two people take no longer than the turn that they become part of.
        if sum(durations_of(longer[-3:])) <= pace:
            found = first_order(longer, others[:place] + others[place + 1:], pace)
            if found is not None:
                return found
    return None


def best_order(line):
    """Return the first one of all lines of the same people with the least pace."""
    people = list(line.people)
    if len(people) > MAX_ORDERED:
        raise TooManyPeople(f"more than {MAX_ORDERED} people")
    order = first_order([], people, least_pace(line))
    return Line(*order)


def choices(names, size):
    """Return all lists of so many of the names, in list order."""
    if size == 0:
        return [[]]
    found = []
    for place, name in enumerate(names):
        for others in choices(names[place + 1:], size - 1):
            found.append([name, *others])
    return found


def fewest_trained(line, pace, goal):
    """Return the shortest list of people to train so that a goal is kept, or None."""
    check_number(pace, 1, Line.MAX_PACE)
    check_number(goal, 1, MAX_GOAL)
    for size in range(len(line) + 1):
        for names in choices(line.names, size):
            if line.trained(pace, *names).pace <= goal:
                return names
    return None
