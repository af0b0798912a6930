"""What the people of a line have in their hands, tick by tick."""


class Hands:
    """What everybody holds in a tick, and until when it is being handed on.

    Hand-overs that end in this tick have ended, but none has begun in it.
    """

    def __init__(self, paces):
        self.tick = 0
        self.come = 0
        self.paces = list(paces)
        self.pausing = [False] * len(paces)
        # The last person empties each bucket at once, and so never holds one.
        self.held = [0] + [None] * (len(paces) - 1)
        # For each hand-over, the tick in which it ends, or None if it has not begun.
        self.until = [None] * (len(paces) - 1)

    def twin(self):
        """Return equal hands, which can be changed instead of these."""
        other = Hands(self.paces)
        other.tick = self.tick
        other.come = self.come
        other.pausing = list(self.pausing)
        other.held = list(self.held)
        other.until = list(self.until)
        return other

    def move_on(self, ticks):
        """Let ticks pass."""
        goal = self.tick + ticks
        while self.tick < goal:
            self._begin()
            # Nothing happens before the next end, since no hands change before.
            ends = [tick for tick in self.until if tick is not None]
            self.tick = min([goal, *ends])
            self._end()

    def _can_begin(self, place):
        """Tell whether the hand-over by the person at a place can begin."""
        ready = self.held[place] is not None and self.until[place] is None
        pausing = self.pausing[place] or self.pausing[place + 1]
        return ready and self.held[place + 1] is None and not pausing

    def _begin(self):
        """Begin all hand-overs that can begin in this tick."""
        for place in range(len(self.until)):
            if self._can_begin(place):
                self.until[place] = self.tick + max(self.paces[place], self.paces[place + 1])

    def _end(self):
        """End all hand-overs that take until this tick."""
        ending = [place for place, tick in enumerate(self.until) if tick == self.tick]
        for place in ending:
            self._hand_on(place)

    def _hand_on(self, place):
        """End the hand-over by the person at a place."""
        bucket = self.held[place]
        self.until[place] = None
        self.held[place] = bucket + 1 if place == 0 else None
        if place + 1 < len(self.until):
            self.held[place + 1] = bucket
        else:
            self.come += 1
