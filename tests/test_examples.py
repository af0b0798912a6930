"""Each example of the interface."""

import unittest

from bucketline.chains import chain_of_waits, judge_chain, slowest_part
from bucketline.codec import decode_line, encode_line
from bucketline.errors import (
    Contradiction, DecodeError, InvalidChain, InvalidFire, InvalidLine, InvalidOperation, InvalidSchedule,
    InvalidText, InvalidWorker,
)
from bucketline.fires import Fire, largest_fire, put_out
from bucketline.hidden import PaceObserver
from bucketline.kinds import Learning, Resting, Tiring, Worker, played, ticks_needed
from bucketline.lines import Line, buckets_by, latest_begin, steady_from
from bucketline.live import LiveLine
from bucketline.orders import best_order, fewest_trained, good_line, least_pace
from bucketline.texts import format_line, parse_line, parse_schedule, schedule
from tests.cases import Case


class ExamplesTest(Case):
    def setUp(self):
        self.line = Line(("ann", 2), ("bob", 3), ("cid", 1))

    def test_signs_and_properties(self):
        line = self.line
        self.assertEqual(
            [line.durations, line.pace, line["bob"], (-line).names, (line - "cid").people],
            [(3, 3), 6, 3, ('cid', 'bob', 'ann'), (('ann', 2), ('bob', 3))])

    def test_calls(self):
        line = self.line
        self.assertEqual(
            [line(0, "ann"), line(0, "cid"), line(1, "ann"), line(1, "cid"), line(10 ** 18, "cid")],
            [0, 6, 3, 12, 6000000000000000006])

    def test_one_person(self):
        self.fails(InvalidLine(index=1), Line, ("ann", 2))

    def test_named_trained_arrivals(self):
        line = self.line
        self.assertEqual(
            [Line.named(ann=2, bob=3).names, line.trained(1, "bob").pace, list(line.arrivals(0, 2))],
            [('ann', 'bob'), 3, [6, 12, 18]])

    def test_functions_of_lines(self):
        line = self.line
        self.assertEqual(
            [steady_from(line), buckets_by(line, 12), latest_begin(line, 2, 20), latest_begin(line, 2, 11)],
            [0, 2, 8, None])

    def test_chains(self):
        line = self.line
        chain = chain_of_waits(line, 1, "cid")
        self.assertEqual(
            [chain, judge_chain(line, chain), slowest_part(line)],
            [[(0, 'ann'), (0, 'bob'), (1, 'ann'), (1, 'bob')], 12, ['ann', 'bob', 'cid']])

    def test_invalid_chain(self):
        self.fails(InvalidChain(index=1), judge_chain, self.line, [(0, "ann"), (1, "ann")])

    def test_orders(self):
        line = self.line
        self.assertEqual(
            [least_pace(line), good_line(line).pace, best_order(line).names],
            [5, 5, ('ann', 'cid', 'bob')])

    def test_fewest_trained(self):
        line = self.line
        self.assertEqual([fewest_trained(line, 1, 4), fewest_trained(line, 5, 4)], [['bob'], None])

    def test_observer(self):
        observer = PaceObserver(self.line, "bob")
        self.assertEqual(
            [observer.see(0, "bob", 2), observer.possible_paces, observer.telling_bucket(5),
             observer.see(0, "cid", 4)],
            [2, (1, 2), 0, 1])

    def test_contradiction(self):
        self.fails(Contradiction(), PaceObserver(self.line, "bob").see, 0, "bob", 1)

    def test_kinds(self):
        self.assertEqual(
            [Tiring("a", 5, after=2, extra=3).ticks_for(4), Learning("b", 5, best=2).ticks_for(9),
             Resting("c", 5, after=3, rest=4).ticks_for(2)],
            [11, 2, 9])

    def test_invalid_worker(self):
        self.fails(InvalidWorker(part='best'), Learning, "b", 5, best=6)

    def test_played(self):
        self.assertEqual(list(played([Worker("a", 2), Learning("b", 4, best=1)], 3)), [4, 7, 9])

    def test_ticks_needed(self):
        self.assertEqual(ticks_needed([Worker("a", 2), Worker("b", 3), Worker("c", 1)], 2), 12)


class FireExamplesTest(Case):
    def setUp(self):
        self.line = Line(("anna", 2), ("bert", 3), ("carl", 1))

    def test_left(self):
        self.assertEqual(Fire(10, growth=1, water=7).left(1, 12), 8)

    def test_invalid_fire(self):
        self.fails(InvalidFire(part='size'), Fire, 0, growth=1, water=7)

    def test_put_out(self):
        line = self.line
        self.assertEqual(
            [put_out(line, Fire(10, growth=1, water=7)), put_out(line, Fire(10, growth=1, water=6))],
            [(9, 60), None])

    def test_largest_fire(self):
        line = self.line
        self.assertEqual(
            [largest_fire(line, 1, 7, 60), largest_fire(line, 1, 7, 5), largest_fire(line, 2, 5, 60)],
            [10, 0, 0])


class LiveExamplesTest(Case):
    def setUp(self):
        self.live = LiveLine(Line(("anna", 2), ("bert", 3), ("carl", 1)))

    def test_wait(self):
        live = self.live
        self.assertEqual([live.wait(12), live.now, live.holding], [2, 12, {'anna': 2, 'bert': None, 'carl': None}])

    def test_train(self):
        live = self.live
        self.assertEqual([live.train("bert", 9), live.wait(18)], [3, 1])

    def test_pause(self):
        live = self.live
        self.assertEqual([live.pause("bert"), live.pause("bert"), live.wait(99)], [True, False, 0])

    def test_resume(self):
        live = self.live
        self.assertEqual([live.pause("bert"), live.wait(4), live.resume("bert"), live.wait(6)], [True, 0, True, 1])

    def test_undo(self):
        live = self.live
        live.wait(6)
        self.assertEqual([live.undo(), live.now, live.undo()], [True, 0, False])

    def test_redo(self):
        live = self.live
        live.wait(6)
        live.undo()
        self.assertEqual([live.redo(), live.arrived], [True, 1])

    def test_apply_all(self):
        self.assertEqual(self.live.apply_all([("wait", 6), ("train", "anna", 5)]), [1, 2])

    def test_invalid_operation(self):
        self.fails(InvalidOperation(index=1), self.live.apply_all, [("wait", 6), ("pause",)])

    def test_tried(self):
        live = self.live
        self.assertEqual([live.tried([("wait", 6), ("train", "anna", 5)]), live.now, live.history], [[1, 2], 0, []])

    def test_replay(self):
        live = LiveLine.replay(Line(("anna", 2), ("bert", 3)), ("wait", 7))
        self.assertEqual([live.arrived, live.history], [2, [('wait', 7)]])


class TextExamplesTest(Case):
    def test_format_line(self):
        self.assertEqual(format_line(Line(("anna", 2), ("bert", 3))), 'anna 2\nbert 3')

    def test_parse_line(self):
        self.assertEqual(parse_line("anna 2\nbert 3").people, (('anna', 2), ('bert', 3)))

    def test_invalid_text(self):
        self.fails(InvalidText(row=1, word=1), parse_line, "anna 2\nbert")

    def test_schedule(self):
        self.assertEqual(schedule(Line(("anna", 200), ("bert", 300)), 2).split("\n")[2], '     1       300       600')

    def test_parse_schedule(self):
        self.assertEqual(parse_schedule(schedule(Line(("anna", 900), ("bert", 300)), 2)),
                         (['anna', 'bert'], [[0, 900], [900, 1800]]))

    def test_invalid_schedule(self):
        self.fails(InvalidSchedule(row=0), parse_schedule, "bucket")


class CodecExamplesTest(Case):
    def test_encode_line(self):
        self.assertEqual(encode_line(Line(("a", 2), ("b", 300))), [66, 2, 1, 0, 0, 2, 1, 1, 1, 44, 108])

    def test_decode_line(self):
        self.assertEqual(decode_line([66, 2, 1, 0, 0, 2, 1, 1, 1, 44, 108]).people, (('a', 2), ('b', 300)))

    def test_invalid_bytes(self):
        self.fails(DecodeError(offset=1), decode_line, [66, 1])


if __name__ == "__main__":
    unittest.main()
