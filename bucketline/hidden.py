"""What the pace of somebody can be if it was seen who held a bucket when."""

from bucketline.checks import check_number, check_person, is_whole
from bucketline.errors import Contradiction
from bucketline.lines import MAX_BUCKET, Line

MAX_LIMIT = 200


class PaceObserver:
    """Somebody who knows a line except for the pace of one person."""

    def __init__(self, line, name):
        check_person(line.names, name)
        self._line = line
        self._hidden = name
        self._least = 1
        self._greatest = Line.MAX_PACE
        self._seen = []

    @property
    def possible_paces(self):
        """Return the least and the greatest pace that are possible."""
        return self._least, self._greatest

    @property
    def records(self):
        """Return the list of all accepted observations."""
        return list(self._seen)

    def _held_from(self, pace, bucket, name):
        """Return from which tick on a person holds a bucket with this pace."""
        line = self._line.trained(pace, self._hidden)
        return line(bucket, name)

    def _first_pace(self, bucket, name, tick):
        """Return the least possible pace with which it is not before a tick.

        It is one more than the greatest possible pace if it is always before.
        """
        low, high = self._least, self._greatest + 1
        while low < high:
            middle = (low + high) // 2
            if self._held_from(middle, bucket, name) < tick:
                low = middle + 1
            else:
                high = middle
        return low

    def see(self, bucket, name, tick):
        """Record from which tick on a person held a bucket."""
        check_number(bucket, 0, MAX_BUCKET)
        check_person(self._line.names, name)
        least = self._first_pace(bucket, name, tick)
        greatest = self._first_pace(bucket, name, tick + 1) - 1
        if least > greatest or not is_whole(tick):
            raise Contradiction("no pace remains possible")
        self._least = least
        self._greatest = greatest
        self._seen.append((bucket, name, tick))
        return greatest - least + 1

    def telling_bucket(self, limit):
        """Return the first bucket that arrives at other ticks for each pace, or None."""
        check_number(limit, 0, MAX_LIMIT)
        if self._least == self._greatest:
            return 0
        # Bucket 0 arrives after the sum of all durations. If two paces have the
        # same sum, they have the same durations, so no other bucket tells them
        # apart. A duration grows with each pace that is greater than that of
        # the neighbor, so if the two least paces differ, all do.
        last = self._line.names[-1]
        least = self._held_from(self._least, 0, last)
        return 0 if least < self._held_from(self._least + 1, 0, last) else None
