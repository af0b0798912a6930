"""A simulation of hands, tick by tick, that shares no code with the package."""


class Hands:
    """What the people of a line do, straight from point 4 of the document.

    `held_from[place][bucket]` is the tick from which on somebody holds a bucket.
    """

    def __init__(self, paces):
        self.paces = paces
        self.last = len(paces) - 1
        self.now = 0
        self.holds = [None] * len(paces)
        self.ends = [None] * len(paces)
        self.pausing = set()
        self.held_from = [{} for _ in paces]
        self._take(0, 0)

    def pace_for(self, place, bucket):
        """Return the pace of a person for a bucket."""
        return self.paces[place]

    def _take(self, place, bucket):
        self.held_from[place][bucket] = self.now
        # The last person empties each bucket at once.
        self.holds[place] = None if place == self.last else bucket

    def _end_hand_overs(self):
        done = [place for place in range(self.last) if self.ends[place] == self.now]
        for place in done:
            bucket = self.holds[place]
            self.ends[place] = None
            self.holds[place] = None
            self._take(place + 1, bucket)
            if place == 0:
                self._take(0, bucket + 1)

    def _begin_hand_overs(self):
        for place in range(self.last):
            ready = self.holds[place] is not None and self.ends[place] is None
            pauses = place in self.pausing or place + 1 in self.pausing
            if ready and self.holds[place + 1] is None and not pauses:
                bucket = self.holds[place]
                ticks = max(self.pace_for(place, bucket), self.pace_for(place + 1, bucket))
                self.ends[place] = self.now + ticks

    def wait(self, ticks):
        """Let ticks pass, so that in the last one hand-overs have ended, but none has begun."""
        for _ in range(ticks):
            self._begin_hand_overs()
            self.now += 1
            self._end_hand_overs()

    def arrived(self):
        """Return how many buckets have arrived."""
        return len(self.held_from[self.last])

    def run(self, buckets):
        """Let ticks pass until so many buckets have arrived."""
        while len(self.held_from[self.last]) < buckets:
            self._end_hand_overs()
            self._begin_hand_overs()
            self.now += 1
        return self


class ChangingHands(Hands):
    """People whose paces are functions of the bucket (point 11)."""

    def pace_for(self, place, bucket):
        return self.paces[place](bucket)


class LiveModel:
    """A live line that plays its whole history anew whenever it is asked (points 13 and 14)."""

    def __init__(self, people):
        self.people = people
        self.history = []
        self.undone = []

    def _played(self, operations):
        """Return the hands after operations, and the result of the last one."""
        names = [name for name, _ in self.people]
        hands = Hands([pace for _, pace in self.people])
        result = None
        for word, *told in operations:
            if word == "wait":
                before = hands.arrived()
                hands.wait(*told)
                result = hands.arrived() - before
                continue
            place = names.index(told[0])
            if word == "train":
                result, hands.paces[place] = hands.paces[place], told[1]
            else:
                paused_before = set(hands.pausing)
                (hands.pausing.add if word == "pause" else hands.pausing.discard)(place)
                result = hands.pausing != paused_before
        return hands, result

    def execute(self, operation):
        """Execute an operation and return its result."""
        if operation == ("undo",):
            if self.history:
                self.undone.append(self.history.pop())
                return True
            return False
        if operation == ("redo",):
            if self.undone:
                self.history.append(self.undone.pop())
                return True
            return False
        self.history.append(operation)
        self.undone.clear()
        return self._played(self.history)[1]

    def readings(self):
        """Return what the properties of a live line are."""
        hands, _ = self._played(self.history)
        names = [name for name, _ in self.people]
        return [hands.now, hands.arrived(), dict(zip(names, hands.holds)),
                dict(zip(names, hands.paces)), self.history]


def hand_over_ends(paces, buckets):
    """Return the ends of all hand-overs of the first buckets, a list for each place."""
    hands = Hands(paces).run(buckets)
    return [[hands.held_from[place][bucket] for bucket in range(buckets)]
            for place in range(1, len(paces))]


def first_steady(paces, pace, buckets):
    """Return the first bucket from which on all seen hand-overs keep the pace."""
    ends = hand_over_ends(paces, buckets)
    bucket = buckets - 1
    while bucket > 0 and all(row[bucket] - row[bucket - 1] == pace for row in ends):
        bucket -= 1
    return bucket
