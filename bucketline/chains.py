"""Chains of waits: why a bucket does not come earlier."""

from bucketline.checks import check_number, is_whole, place_of
from bucketline.errors import InvalidChain
from bucketline.lines import turns

MAX_CHAIN_BUCKET = 500


def has_to_wait(item, before, last_place):
    """Tell whether a hand-over (bucket, place) has to wait for another one."""
    bucket, place = before
    if item == (bucket, place + 1) or item == (bucket + 1, place - 1):
        return True
    return place == last_place and item == (bucket + 1, place)


def judge_chain(line, chain):
    """Return the sum of the durations of a chain of waits."""
    durations = line.durations
    places = {name: place for place, name in enumerate(line.names[:-1])}
    total = 0
    before = None
    for index, (bucket, name) in enumerate(chain):
        if not is_whole(bucket) or bucket < 0 or name not in places:
            raise InvalidChain(index=index)
        item = (bucket, places[name])
        if before is not None and not has_to_wait(item, before, len(durations) - 1):
            raise InvalidChain(index=index)
        total += durations[places[name]]
        before = item
    return total


def last_hand_over(bucket, place):
    """Return the hand-over after which a person holds a bucket, or None."""
    if place > 0:
        return bucket, place - 1
    return (bucket - 1, 0) if bucket > 0 else None


def waited_for(line, item):
    """Return the hand-over for which a hand-over waited, or None."""
    bucket, place = item
    if bucket == 0:
        return (0, place - 1) if place > 0 else None
    names = line.names
    # Behind the last hand-over nobody's hands are full: the last person
    # empties each bucket at once.
    hands_full = (bucket - 1, min(place + 1, len(names) - 2))
    if place == 0:
        return hands_full
    held = line(bucket, names[place])
    freed = line(bucket - 1, names[hands_full[1] + 1])
    return (bucket, place - 1) if held >= freed else hands_full


def chain_of_waits(line, bucket, name):
    """Return the chain that shows why a person does not hold a bucket earlier."""
    check_number(bucket, 0, MAX_CHAIN_BUCKET)
    names = line.names
    item = last_hand_over(bucket, place_of(names, name))
    chain = []
    while item is not None:
        chain.append((item[0], names[item[1]]))
        item = waited_for(line, item)
    chain.reverse()
    return chain


def slowest_part(line):
    """Return the names of the first neighbors whose durations make the pace."""
    first = turns(line.durations).index(line.pace)
    return list(line.names[first:first + 3])
