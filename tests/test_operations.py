"""Point 14: undo and redo of live lines, lists of operations, trials."""

import random
import unittest

from bucketline.errors import InvalidNumber, InvalidOperation, LineError, UnknownPerson
from bucketline.live import LiveLine, Trial
from tests.cases import Case, all_of, line_of, readings, some_paces
from tests.simulation import LiveModel

NO_OPERATIONS = (
    (), ("wait",), ("wait", 1, 1), ("train",), ("train", "ann"), ("train", "ann", 1, 1), ("pause",),
    ("pause", "ann", 1), ("resume",), ("resume", "ann", "bob"), ("undo", 1), ("redo", 1), ("undo", "undo"),
    ("Wait", 1), ("waits", 1), ("", 1), ("",), ("history",), ("now",), ("apply_all", []), ("tried", []),
    ("replay", 1), ("execute",), (1, 1), (None,), (True, 1), ([], 1), (("wait", 1),), ((), 1), ("__init__", 1),
)


def some_operation(rows, names):
    """Return an operation, undo and redo about as often as others."""
    word = rows.choice(("wait", "wait", "train", "pause", "resume", "resume", "undo", "undo", "redo", "redo"))
    if word in ("undo", "redo"):
        return (word,)
    if word == "wait":
        return ("wait", rows.choice((0, 1, 2, 3, 7, 20)))
    name = rows.choice(names)
    return (word, name, rows.randint(1, 9)) if word == "train" else (word, name)


class ModelTest(Case):
    """Live lines against one that plays its whole history tick by tick."""

    def execute(self, live, operation):
        """Execute an operation by its method."""
        return getattr(live, operation[0])(*operation[1:])

    def test_operations_one_by_one(self):
        rows = random.Random(71)
        for paces in some_paces(1, seed=72):
            line = line_of(*paces)
            live, model = LiveLine(line), LiveModel(line.people)
            for _ in range(40):
                operation = some_operation(rows, line.names)
                self.assertEqual(self.execute(live, operation), model.execute(operation), model.history)
                self.assertEqual(readings(live), model.readings())

    def test_lists_of_operations(self):
        rows = random.Random(73)
        for paces in some_paces(1, seed=74):
            line = line_of(*paces)
            live, model = LiveLine(line), LiveModel(line.people)
            for _ in range(5):
                operations = [some_operation(rows, line.names) for _ in range(rows.randint(0, 9))]
                before = all_of(live)
                tried = live.tried(operations)
                self.assertEqual(all_of(live), before)
                results = live.apply_all(operations)
                self.assertEqual(results, tried)
                self.assertEqual(results, [model.execute(operation) for operation in operations])
                self.assertEqual(readings(live), model.readings())

    def test_all_at_once_and_one_by_one(self):
        rows = random.Random(75)
        for paces in some_paces(1, seed=76):
            line = line_of(*paces)
            operations = [some_operation(rows, line.names) for _ in range(30)]
            single = LiveLine(line)
            results = [self.execute(single, operation) for operation in operations]
            live = LiveLine(line)
            self.assertEqual(live.apply_all(operations), results)
            self.assertEqual(all_of(live), all_of(single))
            self.assertEqual(all_of(LiveLine.replay(line, *operations)), all_of(single))
            self.assertEqual(readings(LiveLine.replay(line, *single.history)), readings(single))


class UndoTest(Case):
    def setUp(self):
        self.live = LiveLine(line_of(2, 3, 1))

    def test_nothing_to_undo_or_redo(self):
        before = readings(self.live)
        self.assertEqual([self.live.undo(), self.live.redo(), self.live.undo(), self.live.redo()], [False] * 4)
        self.assertEqual(readings(self.live), before)

    def test_each_operation(self):
        for operations in ([("wait", 7)], [("wait", 0)], [("train", "bob", 9)], [("train", "bob", 3)],
                           [("pause", "bob")], [("resume", "bob")]):
            live = LiveLine(line_of(2, 3, 1))
            live.wait(4)
            before = all_of(live)[0], live.tried([("wait", 30)])
            live.apply_all(operations)
            after = all_of(live)[0], live.tried([("wait", 30)])
            self.assertEqual(live.history, [("wait", 4), *operations])
            self.assertIs(live.undo(), True)
            self.assertEqual((readings(live), live.tried([("wait", 30)])), before)
            self.assertIs(live.redo(), True)
            self.assertEqual((readings(live), live.tried([("wait", 30)])), after)

    def test_all_operations_back_and_forth(self):
        operations = [("wait", 4), ("pause", "bob"), ("wait", 5), ("train", "ann", 6), ("resume", "bob"), ("wait", 9)]
        seen = [readings(self.live)]
        for operation in operations:
            self.live.apply_all([operation])
            seen.append(readings(self.live))
        for expected in seen[-2::-1]:
            self.assertIs(self.live.undo(), True)
            self.assertEqual(readings(self.live), expected)
        self.assertIs(self.live.undo(), False)
        for expected in seen[1:]:
            self.assertIs(self.live.redo(), True)
            self.assertEqual(readings(self.live), expected)
        self.assertIs(self.live.redo(), False)
        self.assertEqual(readings(self.live), seen[-1])

    def test_undo_ends_a_hand_over_that_had_begun(self):
        self.live.wait(1)
        self.live.undo()
        self.live.train("bob", 9)
        self.assertEqual([self.live.wait(17), self.live.wait(1)], [0, 1])

    def test_an_operation_ends_redo(self):
        for operation in (("wait", 0), ("train", "ann", 2), ("pause", "bob"), ("resume", "bob")):
            live = LiveLine(line_of(2, 3, 1))
            live.apply_all([("wait", 5), ("wait", 6), ("undo",), operation])
            self.assertIs(live.redo(), False)
            self.assertEqual(live.history, [("wait", 5), operation])

    def test_an_operation_with_an_error_does_not_end_redo(self):
        self.live.apply_all([("wait", 5), ("undo",)])
        self.fails(InvalidNumber(), self.live.wait, -1)
        self.fails(UnknownPerson(name="dan"), self.live.pause, "dan")
        self.fails(InvalidNumber(), self.live.train, "ann", 0)
        self.fails(InvalidNumber(), self.live.apply_all, [("wait", 9), ("wait", -1)])
        self.fails(InvalidOperation(index=0), self.live.apply_all, [("wait",)])
        self.assertEqual([self.live.redo(), self.live.now], [True, 5])

    def test_what_executes_nothing_does_not_end_redo(self):
        self.live.apply_all([("wait", 5), ("undo",)])
        self.assertIs(self.live.undo(), False)
        self.assertEqual(self.live.apply_all([]), [])
        self.assertEqual(self.live.tried([("wait", 9)]), [1])
        self.assertEqual([self.live.redo(), self.live.now], [True, 5])

    def test_undo_after_redo_and_a_new_operation(self):
        self.live.apply_all([("wait", 1), ("wait", 2), ("wait", 3)])
        self.assertEqual([self.live.undo(), self.live.undo(), self.live.redo(), self.live.now], [True, True, True, 3])
        self.live.wait(4)
        self.assertEqual([self.live.redo(), self.live.history], [False, [("wait", 1), ("wait", 2), ("wait", 4)]])
        self.assertEqual([self.live.undo(), self.live.now, self.live.undo(), self.live.now], [True, 3, True, 1])
        self.assertEqual([self.live.redo(), self.live.redo(), self.live.redo()], [True, True, False])
        self.assertEqual(self.live.history, [("wait", 1), ("wait", 2), ("wait", 4)])

    def test_many_operations(self):
        for _ in range(3000):
            self.live.wait(1)
        self.assertEqual([self.live.now, len(self.live.history)], [3000, 3000])
        self.assertEqual(sum([self.live.undo() for _ in range(3001)]), 3000)
        self.assertEqual(sum([self.live.redo() for _ in range(3001)]), 3000)
        self.assertEqual([self.live.now, self.live.arrived], [3000, 500])


class ApplyAllTest(Case):
    def setUp(self):
        self.live = LiveLine(line_of(2, 3, 1))

    def test_results(self):
        operations = [("wait", 6), ("train", "ann", 5), ("pause", "ann"), ("pause", "ann"), ("resume", "ann"),
                      ("resume", "ann"), ("undo",), ("redo",), ("redo",), ("wait", 0)]
        self.assertEqual(self.live.apply_all(operations), [1, 2, True, False, True, False, True, True, False, 0])
        self.assertEqual(self.live.history, [*operations[:6], ("wait", 0)])

    def test_no_operations(self):
        before = all_of(self.live)
        self.assertEqual(self.live.apply_all([]), [])
        self.assertEqual(all_of(self.live), before)

    def test_undo_and_redo_of_what_was_before_the_list(self):
        self.live.wait(5)
        self.live.wait(6)
        self.assertEqual(self.live.apply_all([("undo",), ("undo",), ("undo",), ("redo",)]), [True, True, False, True])
        self.assertEqual(self.live.history, [("wait", 5)])
        self.assertEqual(self.live.apply_all([("redo",), ("redo",)]), [True, False])
        self.assertEqual(self.live.history, [("wait", 5), ("wait", 6)])

    def test_undo_behind_the_list_undoes_single_operations(self):
        self.live.apply_all([("wait", 5), ("pause", "ann"), ("wait", 6)])
        self.assertEqual([self.live.undo(), self.live.history], [True, [("wait", 5), ("pause", "ann")]])

    def test_an_error_leaves_everything_as_before(self):
        self.live.apply_all([("wait", 5), ("wait", 7), ("pause", "bob"), ("undo",)])
        before = all_of(self.live)
        good = [("wait", 9), ("train", "ann", 9), ("undo",), ("redo",), ("undo",), ("undo",), ("undo",),
                ("pause", "ann")]
        wrong = [(("wait", -1), InvalidNumber()), (("wait", 10001), InvalidNumber()), (("wait", True), InvalidNumber()),
                 (("train", "ann", 0), InvalidNumber()), (("train", "dan", 0), UnknownPerson(name="dan")),
                 (("pause", "dan"), UnknownPerson(name="dan")), (("resume", ""), UnknownPerson(name=""))]
        for operation, error in wrong:
            for place in range(len(good) + 1):
                operations = [*good[:place], operation, *good[place:]]
                self.fails(error, self.live.apply_all, operations)
                self.assertEqual(all_of(self.live), before)
                self.fails(error, self.live.tried, operations)
                self.assertEqual(all_of(self.live), before)

    def test_undo_and_redo_behind_an_error(self):
        self.live.apply_all([("wait", 5), ("wait", 7), ("undo",)])
        self.fails(InvalidNumber(), self.live.apply_all, [("redo",), ("wait", 1), ("wait", -1)])
        self.assertEqual([self.live.redo(), self.live.now], [True, 12])
        self.fails(InvalidNumber(), self.live.apply_all, [("undo",), ("undo",), ("wait", -1)])
        self.assertEqual([self.live.redo(), self.live.undo(), self.live.now], [False, True, 5])

    def test_the_first_error_counts(self):
        self.fails(UnknownPerson(name="dan"), self.live.apply_all, [("pause", "dan"), ("wait", -1)])
        self.fails(InvalidNumber(), self.live.apply_all, [("wait", -1), ("pause", "dan")])

    def test_malformed_operations(self):
        before = all_of(self.live)
        for operation in NO_OPERATIONS:
            self.fails(InvalidOperation(index=0), self.live.apply_all, [operation])
            self.fails(InvalidOperation(index=2), self.live.apply_all, [("wait", 1), ("undo",), operation, ("wait", 1)])
            self.fails(InvalidOperation(index=1), self.live.tried, [("wait", 1), operation])
            self.fails(InvalidOperation(index=1), LiveLine.replay, line_of(2, 3, 1), ("wait", 1), operation)
            self.assertEqual(all_of(self.live), before)

    def test_the_first_malformed_operation_counts(self):
        self.fails(InvalidOperation(index=1), self.live.apply_all, [("wait", 1), ("wait",), (), ("pause",)])

    def test_malformed_operations_are_found_first(self):
        self.fails(InvalidOperation(index=2), self.live.apply_all, [("wait", -1), ("pause", "dan"), ("undo", 1)])
        self.assertEqual(self.live.history, [])

    def test_the_list_is_not_modified_or_kept(self):
        operations = [("wait", 6), ("undo",), ("redo",)]
        self.live.apply_all(operations)
        self.assertEqual(operations, [("wait", 6), ("undo",), ("redo",)])
        operations.clear()
        self.assertEqual([self.live.history, self.live.undo(), self.live.redo()], [[("wait", 6)], True, True])

    def test_the_history_can_be_applied(self):
        self.live.apply_all([("wait", 6), ("pause", "ann"), ("train", "bob", 4), ("resume", "ann"), ("wait", 20)])
        other = LiveLine(line_of(2, 3, 1))
        other.apply_all(self.live.history)
        self.assertEqual(all_of(other), all_of(self.live))


class TriedTest(Case):
    def test_results(self):
        live = LiveLine(line_of(2, 3, 1))
        live.apply_all([("wait", 3), ("wait", 3), ("undo",)])
        before = all_of(live)
        self.assertEqual(live.tried([("redo",), ("wait", 6), ("undo",), ("undo",), ("train", "ann", 9), ("wait", 99)]),
                         [True, 1, True, True, 2, 9])
        self.assertEqual(all_of(live), before)
        self.assertEqual(live.tried([]), [])
        self.assertEqual(all_of(live), before)


class ReplayTest(Case):
    def test_no_operations(self):
        live = LiveLine.replay(line_of(2, 3, 1))
        self.assertEqual(all_of(live), all_of(LiveLine(line_of(2, 3, 1))))
        self.assertIs(type(live), LiveLine)

    def test_undo_and_redo(self):
        live = LiveLine.replay(line_of(2, 3, 1), ("wait", 7), ("wait", 9), ("undo",))
        self.assertEqual([live.history, live.redo(), live.now], [[("wait", 7)], True, 16])
        self.assertEqual([live.undo(), live.undo(), live.undo()], [True, True, False])

    def test_errors(self):
        line = line_of(2, 3, 1)
        self.fails(InvalidNumber(), LiveLine.replay, line, ("wait", 1), ("wait", -1))
        self.fails(UnknownPerson(name="dan"), LiveLine.replay, line, ("pause", "dan"))
        self.fails(InvalidOperation(index=1), LiveLine.replay, line, ("wait", -1), ("wait",))

    def test_is_called_off_an_object_too(self):
        live = LiveLine(line_of(1, 1))
        live.wait(5)
        self.assertEqual([live.replay(line_of(2, 3, 1), ("wait", 6)).arrived, live.arrived], [1, 5])


class TrialTest(Case):
    def setUp(self):
        self.live = LiveLine(line_of(2, 3, 1))
        self.live.apply_all([("wait", 4), ("pause", "bob"), ("wait", 5), ("undo",)])

    def test_operations_in_a_block(self):
        before = all_of(self.live)
        for operations in ([("wait", 9)], [("undo",)], [("undo",), ("undo",), ("train", "ann", 7)], [("redo",)],
                           [("redo",), ("resume", "bob"), ("wait", 3), ("undo",)], []):
            with Trial(self.live):
                self.live.apply_all(operations)
            self.assertEqual(all_of(self.live), before)

    def test_operations_have_effects_within_a_block(self):
        with Trial(self.live):
            self.live.redo()
            self.assertEqual(self.live.now, 9)
        self.assertEqual(self.live.now, 4)

    def test_errors_in_a_block_go_on(self):
        before = all_of(self.live)
        for error in (InvalidNumber(), KeyError(), UnknownPerson(name="x")):
            with self.assertRaises(type(error)) as caught:
                with Trial(self.live):
                    self.live.wait(9)
                    raise error
            self.assertIs(caught.exception, error)
            self.assertEqual(all_of(self.live), before)
        with self.assertRaises(LineError):
            with Trial(self.live):
                self.live.undo()
                self.live.wait(-1)
        self.assertEqual(all_of(self.live), before)

    def test_a_block_that_is_left(self):
        before = all_of(self.live)
        for ticks in (3, 5):
            with Trial(self.live):
                self.live.wait(ticks)
                continue
        self.assertEqual(all_of(self.live), before)

    def test_blocks_within_blocks(self):
        before = all_of(self.live)
        with Trial(self.live):
            self.live.wait(1)
            between = all_of(self.live)
            with Trial(self.live):
                self.live.apply_all([("undo",), ("undo",), ("wait", 2)])
            self.assertEqual(all_of(self.live), between)
            self.live.wait(3)
            self.assertEqual(self.live.now, 8)
        self.assertEqual(all_of(self.live), before)

    def test_a_trial_begins_with_its_block(self):
        trial = Trial(self.live)
        self.live.wait(1)
        before = all_of(self.live)
        with trial:
            self.live.wait(2)
        self.assertEqual(all_of(self.live), before)
        self.live.wait(3)
        before = all_of(self.live)
        with trial:
            self.live.undo()
            between = all_of(self.live)
            with trial:
                self.live.undo()
            self.assertEqual(all_of(self.live), between)
        self.assertEqual(all_of(self.live), before)

    def test_two_live_lines(self):
        other = LiveLine(line_of(1, 1))
        with Trial(self.live):
            self.live.wait(3)
            other.wait(3)
        self.assertEqual([self.live.now, other.now], [4, 3])

    def test_operations_after_a_block(self):
        with Trial(self.live):
            self.live.wait(9)
        self.assertEqual([self.live.redo(), self.live.now, self.live.redo()], [True, 9, False])
        self.assertEqual([self.live.undo(), self.live.undo(), self.live.history], [True, True, [("wait", 4)]])


if __name__ == "__main__":
    unittest.main()
