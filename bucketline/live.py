"""Live lines, which are watched tick by tick while their people change."""

from bucketline.checks import check_number, place_of
from bucketline.errors import InvalidOperation, LineError
from bucketline.hands import Hands
from bucketline.lines import Line

MAX_WAIT = 10000
# How many arguments the operations have.
ARGUMENTS = {"wait": 1, "train": 2, "pause": 1, "resume": 1, "undo": 0, "redo": 0}


def is_operation(operation):
    """Tell whether a tuple is the name of an operation and its arguments."""
    if not operation or not isinstance(operation[0], str) or operation[0] not in ARGUMENTS:
        return False
    return len(operation) == 1 + ARGUMENTS[operation[0]]


def check_operations(operations):
    """Raise InvalidOperation with the index of the first tuple that is none."""
    for index, operation in enumerate(operations):
        if not is_operation(operation):
            raise InvalidOperation(index=index)


class Course:
    """The hands of a live line, and the operations that led there.

    `before` is the course without the last operation, or None if there is no
    operation; `after` is the course to which redo leads, or None. A course and
    its hands never change: who keeps one can go back to it.
    """

    def __init__(self, hands, operation, before, after):
        self.hands = hands
        self.operation = operation
        self.before = before
        self.after = after


class LiveLine:
    """A line that is watched tick by tick."""

    def __init__(self, line):
        paces = [pace for _, pace in line.people]
        self._names = line.names
        self._course = Course(Hands(paces), None, None, None)

    @classmethod
    def replay(cls, line, *operations):
        """Return a live line after operations."""
        live = cls(line)
        live.apply_all(list(operations))
        return live

    @property
    def now(self):
        """Return the present tick."""
        return self._course.hands.tick

    @property
    def arrived(self):
        """Return how many buckets have come to the last person."""
        return self._course.hands.come

    @property
    def holding(self):
        """Return a dict from all names to what they hold, a bucket or None."""
        held = self._course.hands.held
        return {name: held[place] for place, name in enumerate(self._names)}

    @property
    def paces_now(self):
        """Return a dict from all names to their paces."""
        paces = self._course.hands.paces
        return {name: paces[place] for place, name in enumerate(self._names)}

    @property
    def history(self):
        """Return the list of all operations in effect."""
        operations = []
        course = self._course
        while course.before is not None:
            operations.append(course.operation)
            course = course.before
        return operations[::-1]

    def _go_on(self, operation, hands):
        """Take an operation into the course, which leads to these hands."""
        self._course = Course(hands, operation, self._course, None)

    def wait(self, ticks):
        """Let ticks pass and return how many buckets have come in them."""
        check_number(ticks, 0, MAX_WAIT)
        hands = self._course.hands.twin()
        come_before = hands.come
        hands.move_on(ticks)
        self._go_on(("wait", ticks), hands)
        return hands.come - come_before

    def train(self, name, pace):
        """Give a person another pace and return the former one."""
        place = place_of(self._names, name)
        check_number(pace, 1, Line.MAX_PACE)
        hands = self._course.hands.twin()
        former = hands.paces[place]
        hands.paces[place] = pace
        self._go_on(("train", name, pace), hands)
        return former

    def pause(self, name):
        """Let a person pause and return whether this changes anything."""
        return self._let_pause("pause", name, True)

    def resume(self, name):
        """End the pause of a person and return whether this changes anything."""
        return self._let_pause("resume", name, False)

    def _let_pause(self, word, name, pausing):
        """Let a person pause or not and return whether this changes anything."""
        place = place_of(self._names, name)
        hands = self._course.hands.twin()
        changes = hands.pausing[place] != pausing
        hands.pausing[place] = pausing
        self._go_on((word, name), hands)
        return changes

    def undo(self):
        """Undo the last operation in effect and return whether there was one."""
        undone = self._course
        before = undone.before
        if before is None:
            return False
        self._course = Course(before.hands, before.operation, before.before, undone)
        return True

    def redo(self):
        """Execute the operation that was undone last; return whether there was one."""
        # From the same hands, the operation leads to the course that was undone.
        if self._course.after is None:
            return False
        self._course = self._course.after
        return True

    def _execute(self, operation):
        """Execute an operation and return its result."""
        match operation:
            case ("wait", ticks):
                return self.wait(ticks)
            case ("train", name, pace):
                return self.train(name, pace)
            case ("pause", name):
                return self.pause(name)
            case ("resume", name):
                return self.resume(name)
            case ("undo",):
                return self.undo()
            case _:
                return self.redo()

    def apply_all(self, operations):
        """Execute operations, all or none, and return the list of their results."""
        check_operations(operations)
        course = self._course
        try:
            return [self._execute(operation) for operation in operations]
        except LineError:
            self._course = course
            raise

    def tried(self, operations):
        """Return the results of operations, and leave everything as it is."""
        with Trial(self):
            return self.apply_all(operations)


class Kept:
    """The course of a live line at the beginning of a block.

    `outer` is what is kept for the block around it with the same trial, or None.
    """

    def __init__(self, course, outer):
        self.course = course
        self.outer = outer


class Trial:
    """A context manager that leaves a live line as it was before."""

    def __init__(self, live):
        self._live = live
        self._kept = None

    def __enter__(self):
        self._kept = Kept(self._live._course, self._kept)

    def __exit__(self, kind, value, trace):
        live = self._live
        live._course = self._kept.course
        self._kept = self._kept.outer
