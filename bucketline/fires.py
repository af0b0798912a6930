"""Fires, and with which bucket a line puts them out."""

from bucketline.checks import in_range
from bucketline.errors import InvalidFire
from bucketline.lines import buckets_by

MAX_SIZE = 10 ** 15
MAX_GROWTH = 10 ** 6
MAX_WATER = 10 ** 9


def check_growth_and_water(growth, water):
    """Raise InvalidFire for the first one of both that is out of its range."""
    if not in_range(growth, 0, MAX_GROWTH):
        raise InvalidFire(part="growth")
    if not in_range(water, 1, MAX_WATER):
        raise InvalidFire(part="water")


class Fire:
    """A fire that grows in each tick and becomes smaller with each bucket."""

    def __init__(self, size, *, growth, water):
        if not in_range(size, 1, MAX_SIZE):
            raise InvalidFire(part="size")
        check_growth_and_water(growth, water)
        self.size = size
        self.growth = growth
        self.water = water

    def left(self, bucket, tick):
        """Return how much of the fire is left when a bucket comes in a tick."""
        return self.size + self.growth * tick - self.water * (bucket + 1)


def put_out(line, fire):
    """Return the first bucket that puts a fire out and its tick, or None."""
    # The last hand-over keeps the pace from bucket 0 on, so that each bucket
    # takes away equally much more than the fire grows in the meantime.
    gain = fire.water - fire.growth * line.pace
    if gain <= 0:
        return None
    last = line.names[-1]
    left = fire.left(0, line(0, last))
    # The buckets that are needed for what bucket 0 leaves, rounded up.
    bucket = max(0, -(-left // gain))
    return bucket, line(bucket, last)


def largest_fire(line, growth, water, tick):
    """Return the greatest size of a fire that a line puts out by a tick, or 0."""
    check_growth_and_water(growth, water)
    count = buckets_by(line, tick)
    if count == 0:
        return 0
    # If buckets gain on the fire, the last one of them gains the most. If they
    # do not, none of them does, since as many ticks as the pace have gone by
    # for each one, and the difference is not above 0.
    grown = growth * line(count - 1, line.names[-1])
    return max(0, water * count - grown)
