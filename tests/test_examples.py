"""Each example of the interface sections of lines.py and chains.py."""

import unittest

from bucketline.chains import chain_of_waits, judge_chain, slowest_part
from bucketline.errors import InvalidChain, InvalidLine
from bucketline.lines import Line, buckets_by, latest_begin, steady_from
from tests.cases import Case


class ExamplesTest(Case):
    def setUp(self):
        self.line = Line(("ann", 2), ("bob", 3), ("cid", 1))

    def test_signs_and_properties(self):
        line = self.line
        self.assertEqual(
            [line.durations, line.pace, line["bob"], (-line).names, (line - "cid").people],
            [(3, 3), 6, 3, ('cid', 'bob', 'ann'), (('ann', 2), ('bob', 3))])

    def test_calls(self):
        line = self.line
        self.assertEqual(
            [line(0, "ann"), line(0, "cid"), line(1, "ann"), line(1, "cid"), line(10 ** 18, "cid")],
            [0, 6, 3, 12, 6000000000000000006])

    def test_one_person(self):
        self.fails(InvalidLine(index=1), Line, ("ann", 2))

    def test_named_trained_arrivals(self):
        line = self.line
        self.assertEqual(
            [Line.named(ann=2, bob=3).names, line.trained(1, "bob").pace, list(line.arrivals(0, 2))],
            [('ann', 'bob'), 3, [6, 12, 18]])

    def test_functions_of_lines(self):
        line = self.line
        self.assertEqual(
            [steady_from(line), buckets_by(line, 12), latest_begin(line, 2, 20), latest_begin(line, 2, 11)],
            [0, 2, 8, None])

    def test_chains(self):
        line = self.line
        chain = chain_of_waits(line, 1, "cid")
        self.assertEqual(
            [chain, judge_chain(line, chain), slowest_part(line)],
            [[(0, 'ann'), (0, 'bob'), (1, 'ann'), (1, 'bob')], 12, ['ann', 'bob', 'cid']])

    def test_invalid_chain(self):
        self.fails(InvalidChain(index=1), judge_chain, self.line, [(0, "ann"), (1, "ann")])


if __name__ == "__main__":
    unittest.main()
