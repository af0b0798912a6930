"""Point 1: what holds of the whole package."""

import ast
import pathlib
import unittest

import bucketline
from bucketline.chains import chain_of_waits, judge_chain, slowest_part
from bucketline.errors import InvalidChain, InvalidLine, InvalidNumber, LineError
from bucketline.hidden import PaceObserver
from bucketline.kinds import Learning, Resting, Tiring, Worker, played, ticks_needed
from bucketline.lines import Line, buckets_by, latest_begin, steady_from
from bucketline.orders import best_order, fewest_trained, good_line, least_pace
from tests.cases import Case, line_of

FOLDER = pathlib.Path(bucketline.__file__).parent
CHAIN = [(0, "ann"), (0, "bob"), (1, "ann")]


def four_workers():
    """Return a worker of each kind."""
    return [Worker("ann", 2), Tiring("bob", 3, after=2, extra=4), Learning("cid", 9, best=1),
            Resting("dan", 7, after=3, rest=5)]


def all_of_observer(observer):
    """Return what an observer tells without being changed."""
    return [observer.possible_paces, observer.records, observer.telling_bucket(9)]


def seen_observer(line):
    """Return an observer with a record."""
    observer = PaceObserver(line, "cid")
    observer.see(0, "cid", 6)
    return observer


def all_results(line):
    """Return the results of all functions and methods that return plain values."""
    return [
        line.people, line.names, line.durations, line.pace, len(line), line["bob"],
        line(5, "ann"), line(10 ** 18, "cid"), list(line.arrivals(2, 9)),
        steady_from(line), buckets_by(line, 100), latest_begin(line, 3, 1000),
        chain_of_waits(line, 9, "bob"), judge_chain(line, CHAIN), slowest_part(line),
        least_pace(line), good_line(line).pace, best_order(line).people,
        fewest_trained(line, 2, 5), fewest_trained(line, 1, 2000),
        PaceObserver(line, "bob").see(0, "cid", 6), *all_of_observer(seen_observer(line)),
        *[[worker.ticks_for(bucket) for bucket in range(9)] for worker in four_workers()],
        list(played(four_workers(), 9)), ticks_needed(four_workers(), 0), ticks_needed(four_workers(), 9),
    ]


def numbers_in(value):
    """Return all numbers in nested lists and tuples."""
    if isinstance(value, (list, tuple)):
        return [number for item in value for number in numbers_in(item)]
    return [] if value is None or isinstance(value, str) else [value]


class PackageTest(Case):
    def setUp(self):
        self.line = line_of(2, 3, 1, 7)

    def test_all_numbers_are_integers(self):
        self.assertEqual({type(number) for number in numbers_in(all_results(self.line))}, {int})

    def test_repeated_calls_return_equal_results(self):
        self.assertEqual(all_results(self.line), all_results(self.line))
        self.assertEqual(all_results(self.line), all_results(line_of(2, 3, 1, 7)))

    def test_returned_lists_may_be_modified(self):
        before = all_results(self.line)
        for result in all_results(self.line):
            if isinstance(result, list):
                result.clear()
        self.assertEqual(all_results(self.line), before)

    def test_arguments_are_not_modified(self):
        chain = list(CHAIN)
        judge_chain(self.line, chain)
        self.assertEqual(chain, CHAIN)
        wrong = [(0, "ann"), (5, "ann")]
        self.fails(InvalidChain(index=1), judge_chain, self.line, wrong)
        self.assertEqual(wrong, [(0, "ann"), (5, "ann")])
        workers = four_workers()
        kept = list(workers)
        list(played(workers, 9))
        ticks_needed(workers, 9)
        self.assertEqual(workers, kept)
        wrong = [*kept, kept[0]]
        self.fails(InvalidLine(index=4), ticks_needed, wrong, 9)
        self.assertEqual(wrong, [*kept, kept[0]])

    def test_arguments_are_not_kept(self):
        people = [("ann", 2), ("bob", 3)]
        paces = {"ann": 2, "bob": 3}
        lines = [Line(*people), Line.named(**paces)]
        people.append(("cid", 1))
        paces["ann"] = 9
        self.assertEqual([line.people for line in lines], [(("ann", 2), ("bob", 3))] * 2)

    def test_errors_change_nothing(self):
        before = all_results(self.line)
        wrong = [
            lambda: self.line(-1, "ann"), lambda: self.line(0, "nobody"), lambda: self.line["nobody"],
            lambda: self.line - "nobody", lambda: self.line + self.line, lambda: self.line.trained(0, "ann"),
            lambda: list(self.line.arrivals(2, 1)), lambda: buckets_by(self.line, -1),
            lambda: latest_begin(self.line, 0, 0), lambda: chain_of_waits(self.line, 501, "ann"),
            lambda: judge_chain(self.line, [(-1, "ann")]), lambda: best_order(line_of(*[1] * 8)),
            lambda: fewest_trained(self.line, 0, 9), lambda: fewest_trained(self.line, 1, 0),
            lambda: PaceObserver(self.line, "nobody"), lambda: Worker("", 1),
            lambda: ticks_needed(four_workers(), -1), lambda: list(played(four_workers()[:1], 1)),
        ]
        for call in wrong:
            with self.assertRaises(LineError):
                call()
            self.assertEqual(all_results(self.line), before)

    def test_errors_change_no_observer(self):
        observer = seen_observer(self.line)
        before = all_of_observer(observer)
        wrong = [
            lambda: observer.see(-1, "ann", 0), lambda: observer.see(0, "nobody", 0),
            lambda: observer.see(0, "cid", 7), lambda: observer.telling_bucket(-1),
        ]
        for call in wrong:
            with self.assertRaises(LineError):
                call()
            self.assertEqual(all_of_observer(observer), before)

    def test_generators_raise_when_the_iteration_begins(self):
        ticks = self.line.arrivals(-1, -1)
        self.fails(InvalidNumber(), next, ticks)
        ticks = played(four_workers(), -1)
        self.fails(InvalidNumber(), next, ticks)

    def test_nothing_from_outside_is_imported(self):
        for path in FOLDER.glob("*.py"):
            for node in ast.walk(ast.parse(path.read_text())):
                self.assertNotIsInstance(node, ast.Import, path)
                if isinstance(node, ast.ImportFrom):
                    self.assertTrue(node.module.startswith("bucketline."), path)


if __name__ == "__main__":
    unittest.main()
