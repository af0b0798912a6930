"""What several tests share: how errors and live lines are compared, and lines to try."""

import random
import unittest

from bucketline.lines import Line
from bucketline.live import Trial

NAMES = ("ann", "bob", "cid", "dan", "eve", "fay", "gus", "hal", "ida", "jan", "kim", "lea", "max")


class Case(unittest.TestCase):
    def fails(self, expected, call, *args, **keywords):
        """Check that a call raises just this error, with just these attributes."""
        with self.assertRaises(type(expected)) as caught:
            call(*args, **keywords)
        self.assertIs(type(caught.exception), type(expected))
        self.assertEqual(vars(caught.exception), vars(expected))


def line_of(*paces):
    """Return a line of people with these paces."""
    return Line(*zip(NAMES, paces))


def some_paces(many, seed):
    """Return lists of paces for lines of 2 to 12 people, the same in each run."""
    rows = random.Random(seed)
    return [[rows.randint(1, top) for _ in range(people)]
            for people in range(2, 13) for top in (2, 5, 30) for _ in range(many)]


def readings(live):
    """Return what all properties of a live line are."""
    return [live.now, live.arrived, live.holding, live.paces_now, live.history]


def all_of(live):
    """Return all that can be seen of a live line, also by all undo and redo."""
    seen = [readings(live)]
    with Trial(live):
        while live.undo():
            seen.append(readings(live))
    with Trial(live):
        while live.redo():
            seen.append(readings(live))
    with Trial(live):
        seen.append([live.wait(50), readings(live)])
    return seen
