"""Lines of people, and the ticks in which their buckets come to whom."""

from bucketline.checks import check_number, in_range, place_of
from bucketline.errors import InvalidLine, InvalidNumber

LETTERS = "abcdefghijklmnopqrstuvwxyz"
MAX_LETTERS = 8
MIN_PEOPLE = 2
MAX_BUCKET = 10 ** 18
MAX_COUNT = 10 ** 18
MAX_TICK = 10 ** 18
MAX_DEADLINE = 10 ** 24
MAX_ARRIVALS = 10000


def is_name(name):
    """Tell whether somebody in a line can have this name."""
    if not isinstance(name, str) or not 1 <= len(name) <= MAX_LETTERS:
        return False
    return all([letter in LETTERS for letter in name])


def check_people(people):
    """Raise InvalidLine unless these people can be a line."""
    names = [name for name, _ in people]
    for index, (name, pace) in enumerate(people):
        fits = is_name(name) and in_range(pace, 1, Line.MAX_PACE)
        if index >= Line.MAX_PEOPLE or not fits or name in names[:index]:
            raise InvalidLine(index=index)
    if len(people) < MIN_PEOPLE:
        raise InvalidLine(index=len(people))


def durations_of(people):
    """Return the tuple of the ticks that the hand-overs of these people take."""
    paces = [pace for _, pace in people]
    return tuple([max(ahead, behind) for ahead, behind in zip(paces, paces[1:])])


class Line:
    """People who stand in a line from a well to a fire; it never changes."""

    MAX_PEOPLE = 12
    MAX_PACE = 1000

    def __init__(self, *people):
        check_people(people)
        self._people = tuple([(name, pace) for name, pace in people])
        self._names = tuple([name for name, _ in people])
        self._durations = durations_of(people)

    # The first parameter has a name that nobody in a line can have, so that
    # each name can be given as a keyword, "cls" and "self" too.
    @classmethod
    def named(line_class, **paces):
        """Return the line of the people given as keywords with their paces."""
        people = list(paces.items())
        return line_class(*people)

    @property
    def people(self):
        """Return the tuple of all people, tuples (name, pace)."""
        return self._people

    @property
    def names(self):
        """Return the tuple of all names."""
        return self._names

    @property
    def durations(self):
        """Return the tuple of the ticks that the hand-overs take."""
        return self._durations

    @property
    def pace(self):
        """Return how many ticks a bucket takes in the long run."""
        return max(turns(self._durations))

    def __len__(self):
        return len(self._people)

    def __contains__(self, name):
        return name in self._names

    def __getitem__(self, name):
        place = place_of(self._names, name)
        return self._people[place][1]

    def __iter__(self):
        raise TypeError("a line cannot be iterated over")

    def __sub__(self, name):
        place = place_of(self._names, name)
        people = self._people[:place] + self._people[place + 1:]
        return Line(*people)

    def __add__(self, other):
        if not isinstance(other, Line):
            return NotImplemented
        people = self._people + other._people
        return Line(*people)

    def __neg__(self):
        people = self._people[::-1]
        return Line(*people)

    def __eq__(self, other):
        return isinstance(other, Line) and self._people == other._people

    def __call__(self, bucket, name):
        """Return the tick from which on a person holds a bucket."""
        check_number(bucket, 0, MAX_BUCKET)
        place = place_of(self._names, name)
        if place > 0:
            return hand_over_end(self._durations, place - 1, bucket)
        if bucket > 0:
            return hand_over_end(self._durations, 0, bucket - 1)
        return 0

    def trained(self, pace, *names):
        """Return the line in which the people of these names have this pace."""
        places = [place_of(self._names, name) for name in names]
        people = [
            (name, pace if place in places else own_pace)
            for place, (name, own_pace) in enumerate(self._people)
        ]
        return Line(*people)

    def arrivals(self, first, last):
        """Yield the ticks in which the buckets from first to last arrive."""
        check_number(first, 0, MAX_BUCKET)
        check_number(last, first, MAX_BUCKET)
        if last - first >= MAX_ARRIVALS:
            raise InvalidNumber(f"more than {MAX_ARRIVALS} buckets")
        end = len(self._durations) - 1
        for bucket in range(first, last + 1):
            yield hand_over_end(self._durations, end, bucket)


def turns(durations):
    """Return the sums of each two successive durations, or the only one."""
    if len(durations) == 1:
        return list(durations)
    return [one + two for one, two in zip(durations, durations[1:])]


def growths(durations, place):
    """Return pairs (start, step) for the hand-over at a place.

    It ends for each bucket at the greatest start + step * bucket of them.
    """
    # The end is the greatest sum of a chain of waits from the first hand-over
    # of all. It goes along the line, and back by one hand-over for each next
    # bucket; going back and along again takes a turn. A chain that goes as far
    # as `reach` turns has each turn behind the place at least once, and all
    # other turns are best at the longest one. With too few buckets there is no
    # such chain, but then its sum is not greater than that of a shorter one.
    ticks = turns(durations)
    way = sum(durations[:place + 1])
    pairs = []
    for reach in range(max(place, 1), len(ticks) + 1):
        longest = max(ticks[:reach])
        lost = sum([longest - turn for turn in ticks[place:reach]])
        pairs.append((way - lost, longest))
    return pairs


def hand_over_end(durations, place, bucket):
    """Return the tick in which the hand-over of a bucket at a place ends."""
    return max([start + step * bucket for start, step in growths(durations, place)])


def steady_at(durations, place, pace):
    """Return the first bucket from which on the hand-over at a place is steady."""
    pairs = growths(durations, place)
    steady_start = max([start for start, step in pairs if step == pace])
    # The buckets, rounded up, with which the steady pair reaches the other ones.
    reached = [-((steady_start - start) // (pace - step)) for start, step in pairs if step < pace]
    return max([0, *reached])


def steady_from(line):
    """Return the first bucket from which on all hand-overs keep the pace."""
    durations = line.durations
    pace = line.pace
    return max([steady_at(durations, place, pace) for place in range(len(durations))])


def buckets_by(line, tick):
    """Return how many buckets have arrived by a tick."""
    check_number(tick, 0, MAX_TICK)
    # The last hand-over keeps the pace from bucket 0 on.
    return max(0, (tick - sum(line.durations)) // line.pace + 1)


def latest_begin(line, count, deadline):
    """Return the latest begin so that so many buckets arrive by a deadline, or None."""
    check_number(count, 1, MAX_COUNT)
    check_number(deadline, 0, MAX_DEADLINE)
    begin = deadline - line(count - 1, line.names[-1])
    return begin if begin >= 0 else None
