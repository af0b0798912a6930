"""Kinds of people, whose paces can change from bucket to bucket."""

from bucketline.checks import check_number, in_range
from bucketline.errors import InvalidLine, InvalidWorker
from bucketline.lines import MIN_PEOPLE, Line, durations_of, is_name

MAX_AFTER = 1000
MAX_MORE = 1000
MAX_PLAYED = 2000


def check_part(part, fits):
    """Raise InvalidWorker with this part unless it fits."""
    if not fits:
        raise InvalidWorker(part=part)


class Worker:
    """A person who always has the same pace."""

    KIND = "steady"

    def __init__(self, name, pace):
        check_part("name", is_name(name))
        check_part("pace", in_range(pace, 1, Line.MAX_PACE))
        self.name = name
        self._pace = pace

    def ticks_for(self, bucket):
        """Return the pace for a bucket."""
        return self._pace


class Tiring(Worker):
    """A person who gets slower after each so many buckets."""

    KIND = "tiring"

    def __init__(self, name, pace, *, after, extra):
        super().__init__(name, pace)
        check_part("after", in_range(after, 1, MAX_AFTER))
        check_part("extra", in_range(extra, 0, MAX_MORE))
        self._after = after
        self._extra = extra

    def ticks_for(self, bucket):
        """Return the pace for a bucket."""
        return min(self._pace + bucket // self._after * self._extra, Line.MAX_PACE)


class Learning(Worker):
    """A person who gets faster with each bucket."""

    KIND = "learning"

    def __init__(self, name, pace, *, best):
        super().__init__(name, pace)
        check_part("best", in_range(best, 1, pace))
        self._best = best

    def ticks_for(self, bucket):
        """Return the pace for a bucket."""
        return max(self._pace - bucket, self._best)


class Resting(Worker):
    """A person who is slower for the last one of each so many buckets."""

    KIND = "resting"

    def __init__(self, name, pace, *, after, rest):
        super().__init__(name, pace)
        check_part("after", in_range(after, 1, MAX_AFTER))
        check_part("rest", in_range(rest, 0, MAX_MORE))
        self._after = after
        self._rest = rest

    def ticks_for(self, bucket):
        """Return the pace for a bucket."""
        is_last = (bucket + 1) % self._after == 0
        return self._pace + self._rest if is_last else self._pace


def check_workers(workers):
    """Raise InvalidLine unless these workers can be a line."""
    names = [worker.name for worker in workers]
    for index, name in enumerate(names):
        if index >= Line.MAX_PEOPLE or name in names[:index]:
            raise InvalidLine(index=index)
    if len(names) < MIN_PEOPLE:
        raise InvalidLine(index=len(names))


def ends_after(ends, durations):
    """Return when the hand-overs of a bucket end, from those of the bucket before."""
    # The first person holds a bucket as soon as the one before is handed on.
    held = ends[0]
    later = []
    for place, ticks in enumerate(durations):
        # Behind the last hand-over nobody's hands are full: the last person
        # empties each bucket at once.
        freed = ends[min(place + 1, len(ends) - 1)]
        held = max(held, freed) + ticks
        later.append(held)
    return later


def played(workers, count):
    """Yield the ticks in which the first so many buckets come to the last person."""
    # A copy, so that the caller may change the list between two ticks.
    crew = list(workers)
    check_workers(crew)
    check_number(count, 0, MAX_PLAYED)
    ends = [0] * (len(crew) - 1)
    for bucket in range(count):
        people = [(worker.name, worker.ticks_for(bucket)) for worker in crew]
        ends = ends_after(ends, durations_of(people))
        yield ends[-1]


def ticks_needed(workers, count):
    """Return the tick in which the last one of so many buckets comes, 0 without any."""
    ticks = list(played(workers, count))
    return ticks[-1] if ticks else 0
