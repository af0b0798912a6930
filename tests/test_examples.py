"""Each example of the interface sections of the modules that are built."""

import unittest

from bucketline.chains import chain_of_waits, judge_chain, slowest_part
from bucketline.errors import Contradiction, InvalidChain, InvalidLine, InvalidWorker
from bucketline.hidden import PaceObserver
from bucketline.kinds import Learning, Resting, Tiring, Worker, played, ticks_needed
from bucketline.lines import Line, buckets_by, latest_begin, steady_from
from bucketline.orders import best_order, fewest_trained, good_line, least_pace
from tests.cases import Case


class ExamplesTest(Case):
    def setUp(self):
        self.line = Line(("ann", 2), ("bob", 3), ("cid", 1))

    def test_signs_and_properties(self):
        line = self.line
        self.assertEqual(
            [line.durations, line.pace, line["bob"], (-line).names, (line - "cid").people],
            [(3, 3), 6, 3, ('cid', 'bob', 'ann'), (('ann', 2), ('bob', 3))])

    def test_calls(self):
        line = self.line
        self.assertEqual(
            [line(0, "ann"), line(0, "cid"), line(1, "ann"), line(1, "cid"), line(10 ** 18, "cid")],
            [0, 6, 3, 12, 6000000000000000006])

    def test_one_person(self):
        self.fails(InvalidLine(index=1), Line, ("ann", 2))

    def test_named_trained_arrivals(self):
        line = self.line
        self.assertEqual(
            [Line.named(ann=2, bob=3).names, line.trained(1, "bob").pace, list(line.arrivals(0, 2))],
            [('ann', 'bob'), 3, [6, 12, 18]])

    def test_functions_of_lines(self):
        line = self.line
        self.assertEqual(
            [steady_from(line), buckets_by(line, 12), latest_begin(line, 2, 20), latest_begin(line, 2, 11)],
            [0, 2, 8, None])

    def test_chains(self):
        line = self.line
        chain = chain_of_waits(line, 1, "cid")
        self.assertEqual(
            [chain, judge_chain(line, chain), slowest_part(line)],
            [[(0, 'ann'), (0, 'bob'), (1, 'ann'), (1, 'bob')], 12, ['ann', 'bob', 'cid']])

    def test_invalid_chain(self):
        self.fails(InvalidChain(index=1), judge_chain, self.line, [(0, "ann"), (1, "ann")])

    def test_orders(self):
        line = self.line
        self.assertEqual(
            [least_pace(line), good_line(line).pace, best_order(line).names],
            [5, 5, ('ann', 'cid', 'bob')])

    def test_fewest_trained(self):
        line = self.line
        self.assertEqual([fewest_trained(line, 1, 4), fewest_trained(line, 5, 4)], [['bob'], None])

    def test_observer(self):
        observer = PaceObserver(self.line, "bob")
        self.assertEqual(
            [observer.see(0, "bob", 2), observer.possible_paces, observer.telling_bucket(5),
             observer.see(0, "cid", 4)],
            [2, (1, 2), 0, 1])

    def test_contradiction(self):
        self.fails(Contradiction(), PaceObserver(self.line, "bob").see, 0, "bob", 1)

    def test_kinds(self):
        self.assertEqual(
            [Tiring("a", 5, after=2, extra=3).ticks_for(4), Learning("b", 5, best=2).ticks_for(9),
             Resting("c", 5, after=3, rest=4).ticks_for(2)],
            [11, 2, 9])

    def test_invalid_worker(self):
        self.fails(InvalidWorker(part='best'), Learning, "b", 5, best=6)

    def test_played(self):
        self.assertEqual(list(played([Worker("a", 2), Learning("b", 4, best=1)], 3)), [4, 7, 9])

    def test_ticks_needed(self):
        self.assertEqual(ticks_needed([Worker("a", 2), Worker("b", 3), Worker("c", 1)], 2), 12)


if __name__ == "__main__":
    unittest.main()
