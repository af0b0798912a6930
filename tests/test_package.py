"""Point 1: what holds of the whole package."""

import ast
import pathlib
import unittest

import bucketline
from bucketline.chains import chain_of_waits, judge_chain, slowest_part
from bucketline.errors import InvalidChain, InvalidNumber, LineError
from bucketline.lines import Line, buckets_by, latest_begin, steady_from
from tests.cases import Case, line_of

FOLDER = pathlib.Path(bucketline.__file__).parent
CHAIN = [(0, "ann"), (0, "bob"), (1, "ann")]


def all_results(line):
    """Return the results of all functions and methods that return plain values."""
    return [
        line.people, line.names, line.durations, line.pace, len(line), line["bob"],
        line(5, "ann"), line(10 ** 18, "cid"), list(line.arrivals(2, 9)),
        steady_from(line), buckets_by(line, 100), latest_begin(line, 3, 1000),
        chain_of_waits(line, 9, "bob"), judge_chain(line, CHAIN), slowest_part(line),
    ]


def numbers_in(value):
    """Return all numbers in nested lists and tuples."""
    if isinstance(value, (list, tuple)):
        return [number for item in value for number in numbers_in(item)]
    return [] if isinstance(value, str) else [value]


class PackageTest(Case):
    def setUp(self):
        self.line = line_of(2, 3, 1, 7)

    def test_all_numbers_are_integers(self):
        self.assertEqual({type(number) for number in numbers_in(all_results(self.line))}, {int})

    def test_repeated_calls_return_equal_results(self):
        self.assertEqual(all_results(self.line), all_results(self.line))
        self.assertEqual(all_results(self.line), all_results(line_of(2, 3, 1, 7)))

    def test_returned_lists_may_be_modified(self):
        before = all_results(self.line)
        for result in all_results(self.line):
            if isinstance(result, list):
                result.clear()
        self.assertEqual(all_results(self.line), before)

    def test_arguments_are_not_modified(self):
        chain = list(CHAIN)
        judge_chain(self.line, chain)
        self.assertEqual(chain, CHAIN)
        wrong = [(0, "ann"), (5, "ann")]
        self.fails(InvalidChain(index=1), judge_chain, self.line, wrong)
        self.assertEqual(wrong, [(0, "ann"), (5, "ann")])

    def test_arguments_are_not_kept(self):
        people = [("ann", 2), ("bob", 3)]
        paces = {"ann": 2, "bob": 3}
        lines = [Line(*people), Line.named(**paces)]
        people.append(("cid", 1))
        paces["ann"] = 9
        self.assertEqual([line.people for line in lines], [(("ann", 2), ("bob", 3))] * 2)

    def test_errors_change_nothing(self):
        before = all_results(self.line)
        wrong = [
            lambda: self.line(-1, "ann"), lambda: self.line(0, "nobody"), lambda: self.line["nobody"],
            lambda: self.line - "nobody", lambda: self.line + self.line, lambda: self.line.trained(0, "ann"),
            lambda: list(self.line.arrivals(2, 1)), lambda: buckets_by(self.line, -1),
            lambda: latest_begin(self.line, 0, 0), lambda: chain_of_waits(self.line, 501, "ann"),
            lambda: judge_chain(self.line, [(-1, "ann")]),
        ]
        for call in wrong:
            with self.assertRaises(LineError):
                call()
            self.assertEqual(all_results(self.line), before)

    def test_generators_raise_when_the_iteration_begins(self):
        ticks = self.line.arrivals(-1, -1)
        self.fails(InvalidNumber(), next, ticks)

    def test_nothing_from_outside_is_imported(self):
        for path in FOLDER.glob("*.py"):
            for node in ast.walk(ast.parse(path.read_text())):
                self.assertNotIsInstance(node, ast.Import, path)
                if isinstance(node, ast.ImportFrom):
                    self.assertTrue(node.module.startswith("bucketline."), path)


if __name__ == "__main__":
    unittest.main()
