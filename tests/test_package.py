"""Point 1: what holds of the whole package."""

import ast
import pathlib
import unittest

import bucketline
from bucketline.chains import chain_of_waits, judge_chain, slowest_part
from bucketline.codec import decode_line, encode_line
from bucketline.errors import InvalidChain, InvalidLine, InvalidNumber, LineError
from bucketline.fires import Fire, largest_fire, put_out
from bucketline.hidden import PaceObserver
from bucketline.kinds import Learning, Resting, Tiring, Worker, played, ticks_needed
from bucketline.lines import Line, buckets_by, latest_begin, steady_from
from bucketline.live import LiveLine
from bucketline.orders import best_order, fewest_trained, good_line, least_pace
from bucketline.texts import format_line, parse_line, parse_schedule, schedule
from tests.cases import Case, all_of, line_of, readings, some_paces

FOLDER = pathlib.Path(bucketline.__file__).parent
CHAIN = [(0, "ann"), (0, "bob"), (1, "ann")]
OPERATIONS = [("wait", 9), ("train", "bob", 5), ("pause", "cid"), ("wait", 7), ("undo",), ("resume", "cid"),
              ("wait", 40), ("undo",), ("redo",)]


def four_workers():
    """Return a worker of each kind."""
    return [Worker("ann", 2), Tiring("bob", 3, after=2, extra=4), Learning("cid", 9, best=1),
            Resting("dan", 7, after=3, rest=5)]


def all_of_observer(observer):
    """Return what an observer tells without being changed."""
    return [observer.possible_paces, observer.records, observer.telling_bucket(9)]


def seen_observer(line):
    """Return an observer with a record."""
    observer = PaceObserver(line, "cid")
    observer.see(0, "cid", 6)
    return observer


def all_of_part_1(line):
    """Return the results of lines, chains, orders, observers and workers."""
    return [
        line.people, line.names, line.durations, line.pace, len(line), line["bob"],
        line(5, "ann"), line(10 ** 18, "cid"), list(line.arrivals(2, 9)),
        steady_from(line), buckets_by(line, 100), latest_begin(line, 3, 1000),
        chain_of_waits(line, 9, "bob"), judge_chain(line, CHAIN), slowest_part(line),
        least_pace(line), good_line(line).pace, best_order(line).people,
        fewest_trained(line, 2, 5), fewest_trained(line, 1, 2000),
        PaceObserver(line, "bob").see(0, "cid", 6), *all_of_observer(seen_observer(line)),
        *[[worker.ticks_for(bucket) for bucket in range(9)] for worker in four_workers()],
        list(played(four_workers(), 9)), ticks_needed(four_workers(), 0), ticks_needed(four_workers(), 9),
    ]


def all_of_part_2(line):
    """Return the results of fires, live lines, texts and bytes."""
    fire = Fire(99, growth=1, water=20)
    live = LiveLine(line)
    return [
        fire.left(3, 40), put_out(line, fire), put_out(line, Fire(1, growth=9, water=1)),
        largest_fire(line, 1, 20, 300),
        live.tried(OPERATIONS), live.apply_all(OPERATIONS), *readings(live), *all_of(live), live.undo(), live.redo(),
        readings(LiveLine.replay(line, *OPERATIONS)), format_line(line), parse_line(format_line(line)).people,
        schedule(line, 9), parse_schedule(schedule(line, 9)), encode_line(line), decode_line(encode_line(line)).people,
    ]


def all_results(line):
    """Return the results of all functions and methods that return plain values."""
    return [*all_of_part_1(line), *all_of_part_2(line)]


def numbers_in(value):
    """Return all numbers in nested lists, tuples and dicts."""
    if isinstance(value, dict):
        return numbers_in(list(value.values()))
    if isinstance(value, (list, tuple)):
        return [number for item in value for number in numbers_in(item)]
    return [] if value is None or isinstance(value, str) else [value]


class PackageTest(Case):
    def setUp(self):
        self.line = line_of(2, 3, 1, 7)

    def test_all_numbers_are_integers(self):
        self.assertEqual({type(number) for number in numbers_in(all_of_part_1(self.line))}, {int})
        # Live lines also tell whether something was so.
        self.assertEqual({type(number) for number in numbers_in(all_of_part_2(self.line))}, {int, bool})
        live = LiveLine(self.line)
        self.assertEqual([type(live.wait(ticks)) for ticks in (0, 10, 200)], [int] * 3)
        self.assertEqual({type(number) for number in numbers_in(readings(live))}, {int})
        self.assertIs(type(live.train("ann", 1)), int)

    def test_repeated_calls_return_equal_results(self):
        self.assertEqual(all_results(self.line), all_results(self.line))
        self.assertEqual(all_results(self.line), all_results(line_of(2, 3, 1, 7)))

    def test_returned_lists_may_be_modified(self):
        before = all_results(self.line)
        for result in all_results(self.line):
            if isinstance(result, (list, dict)):
                result.clear()
        self.assertEqual(all_results(self.line), before)

    def test_arguments_are_not_modified(self):
        chain = list(CHAIN)
        judge_chain(self.line, chain)
        self.assertEqual(chain, CHAIN)
        wrong = [(0, "ann"), (5, "ann")]
        self.fails(InvalidChain(index=1), judge_chain, self.line, wrong)
        self.assertEqual(wrong, [(0, "ann"), (5, "ann")])
        workers = four_workers()
        kept = list(workers)
        list(played(workers, 9))
        ticks_needed(workers, 9)
        self.assertEqual(workers, kept)
        wrong = [*kept, kept[0]]
        self.fails(InvalidLine(index=4), ticks_needed, wrong, 9)
        self.assertEqual(wrong, [*kept, kept[0]])
        operations = list(OPERATIONS)
        LiveLine(self.line).apply_all(operations)
        LiveLine(self.line).tried(operations)
        self.assertEqual(operations, OPERATIONS)
        data = encode_line(self.line)
        decode_line(data)
        self.assertEqual(data, encode_line(self.line))

    def test_arguments_are_not_kept(self):
        people = [("ann", 2), ("bob", 3)]
        paces = {"ann": 2, "bob": 3}
        lines = [Line(*people), Line.named(**paces)]
        people.append(("cid", 1))
        paces["ann"] = 9
        self.assertEqual([line.people for line in lines], [(("ann", 2), ("bob", 3))] * 2)

    def test_errors_change_nothing(self):
        before = all_results(self.line)
        wrong = [
            lambda: self.line(-1, "ann"), lambda: self.line(0, "nobody"), lambda: self.line["nobody"],
            lambda: self.line - "nobody", lambda: self.line + self.line, lambda: self.line.trained(0, "ann"),
            lambda: list(self.line.arrivals(2, 1)), lambda: buckets_by(self.line, -1),
            lambda: latest_begin(self.line, 0, 0), lambda: chain_of_waits(self.line, 501, "ann"),
            lambda: judge_chain(self.line, [(-1, "ann")]), lambda: best_order(line_of(*[1] * 8)),
            lambda: fewest_trained(self.line, 0, 9), lambda: fewest_trained(self.line, 1, 0),
            lambda: PaceObserver(self.line, "nobody"), lambda: Worker("", 1),
            lambda: ticks_needed(four_workers(), -1), lambda: list(played(four_workers()[:1], 1)),
            lambda: Fire(0, growth=0, water=1), lambda: largest_fire(self.line, 0, 1, -1),
            lambda: LiveLine.replay(self.line, ("wait", 5), ("wait", -1)), lambda: parse_line("ann"),
            lambda: schedule(self.line, -1), lambda: parse_schedule("ann"), lambda: decode_line([66]),
        ]
        for call in wrong:
            with self.assertRaises(LineError):
                call()
            self.assertEqual(all_results(self.line), before)

    def test_errors_change_no_observer(self):
        observer = seen_observer(self.line)
        before = all_of_observer(observer)
        wrong = [
            lambda: observer.see(-1, "ann", 0), lambda: observer.see(0, "nobody", 0),
            lambda: observer.see(0, "cid", 7), lambda: observer.telling_bucket(-1),
        ]
        for call in wrong:
            with self.assertRaises(LineError):
                call()
            self.assertEqual(all_of_observer(observer), before)

    def test_errors_change_no_live_line(self):
        live = LiveLine.replay(self.line, *OPERATIONS, ("undo",))
        before = all_of(live)
        wrong = [
            lambda: live.wait(-1), lambda: live.train("nobody", 5), lambda: live.train("ann", 0),
            lambda: live.pause("nobody"), lambda: live.resume("nobody"), lambda: live.apply_all([("wait", 5), ()]),
            lambda: live.apply_all([("wait", 5), ("undo",), ("undo",), ("wait", -1)]),
            lambda: live.tried([("redo",), ("wait", 5), ("pause", "nobody")]),
        ]
        for call in wrong:
            with self.assertRaises(LineError):
                call()
            self.assertEqual(all_of(live), before)

    def test_generators_raise_when_the_iteration_begins(self):
        ticks = self.line.arrivals(-1, -1)
        self.fails(InvalidNumber(), next, ticks)
        ticks = played(four_workers(), -1)
        self.fails(InvalidNumber(), next, ticks)

    def test_nothing_from_outside_is_imported(self):
        for path in FOLDER.glob("*.py"):
            for node in ast.walk(ast.parse(path.read_text())):
                self.assertNotIsInstance(node, ast.Import, path)
                if isinstance(node, ast.ImportFrom):
                    self.assertTrue(node.module.startswith("bucketline."), path)


class AgreementTest(Case):
    """What several modules tell about the same line."""

    def test_ticks(self):
        for paces in some_paces(1, seed=11):
            line = line_of(*paces)
            last = line.names[-1]
            workers = [Worker(name, pace) for name, pace in line.people]
            ticks = [line(bucket, last) for bucket in range(9)]
            self.assertEqual(list(line.arrivals(0, 8)), ticks)
            self.assertEqual(list(played(workers, 9)), ticks)
            self.assertEqual([row[-1] for row in parse_schedule(schedule(line, 9))[1]], ticks)
            for bucket, tick in enumerate(ticks):
                self.assertEqual(judge_chain(line, chain_of_waits(line, bucket, last)), tick)
                self.assertEqual(LiveLine.replay(line, ("wait", tick)).arrived, bucket + 1)
                self.assertEqual(LiveLine.replay(line, ("wait", tick - 1)).arrived, bucket)
                self.assertEqual(buckets_by(line, tick), bucket + 1)

    def test_a_fire_is_out_when_a_bucket_comes(self):
        for paces in some_paces(1, seed=12):
            line = line_of(*paces)
            water = line.pace + 9
            bucket, tick = put_out(line, Fire(70, growth=1, water=water))
            live = LiveLine.replay(line, ("wait", tick - 1))
            self.assertEqual([live.arrived, live.wait(1), live.arrived], [bucket, 1, bucket + 1])
            self.assertGreaterEqual(largest_fire(line, 1, water, tick), 70)
            self.assertLess(largest_fire(line, 1, water, tick - 1), 70)

    def test_texts_and_bytes_of_all_lines(self):
        for paces in some_paces(1, seed=13):
            line = line_of(*paces)
            for other in (line, -line, good_line(line), line.trained(1000, line.names[0])):
                text, data = format_line(other), encode_line(other)
                self.assertEqual([parse_line(text), decode_line(data)], [other, other])
                self.assertEqual(format_line(decode_line(data)), text)
                self.assertEqual(encode_line(parse_line(text)), data)

    def test_an_observer_of_a_live_line(self):
        for paces in some_paces(1, seed=14):
            line = line_of(*paces)
            name = line.names[1]
            observer = PaceObserver(line.trained(1000, name), name)
            live = LiveLine(line)
            while live.arrived < 3:
                if live.wait(1):
                    observer.see(live.arrived - 1, line.names[-1], live.now)
            least, greatest = observer.possible_paces
            self.assertTrue(least <= line[name] <= greatest)

    def test_a_live_line_after_training(self):
        for paces in some_paces(1, seed=15):
            line = line_of(*paces)
            live = LiveLine.replay(line, ("wait", 17), ("undo",), ("train", line.names[1], 7), ("wait", 60))
            trained = line.trained(7, line.names[1])
            self.assertEqual(live.paces_now, dict(trained.people))
            self.assertEqual(live.arrived, buckets_by(trained, 60))


if __name__ == "__main__":
    unittest.main()
