"""Point 11: kinds of people."""

import random
import unittest

from bucketline.errors import InvalidLine, InvalidNumber, InvalidWorker
from bucketline.kinds import Learning, Resting, Tiring, Worker, played, ticks_needed
from tests.cases import NAMES, Case, line_of, some_paces
from tests.simulation import ChangingHands


def tired(pace, after, extra, bucket):
    """Return the pace of somebody who tires, bucket by bucket."""
    for before in range(1, bucket + 1):
        if before % after == 0:
            pace = min(1000, pace + extra)
    return pace


def learned(pace, best, bucket):
    """Return the pace of somebody who learns, bucket by bucket."""
    for _ in range(bucket):
        pace = pace - 1 if pace > best else best
    return pace


def rested(pace, after, rest, bucket):
    """Return the pace of somebody who rests, from a list of the last buckets."""
    return pace + rest if bucket in range(after - 1, bucket + 1, after) else pace


def first_paces(worker, buckets):
    """Return the paces of a worker for the first buckets."""
    return [worker.ticks_for(bucket) for bucket in range(buckets)]


class KindsTest(Case):
    def test_kind(self):
        self.assertEqual([Worker.KIND, Tiring.KIND, Learning.KIND, Resting.KIND],
                         ["steady", "tiring", "learning", "resting"])
        workers = [Worker("a", 1), Tiring("b", 1, after=1, extra=0), Learning("c", 1, best=1),
                   Resting("d", 1, after=1, rest=0)]
        self.assertEqual([worker.KIND for worker in workers], ["steady", "tiring", "learning", "resting"])

    def test_subclasses(self):
        for kind in (Tiring, Learning, Resting):
            self.assertTrue(issubclass(kind, Worker))
        self.assertFalse(issubclass(Tiring, (Learning, Resting)) or issubclass(Learning, (Tiring, Resting)))
        self.assertFalse(issubclass(Resting, (Tiring, Learning)))

    def test_each_class_has_its_own_method(self):
        for kind in (Worker, Tiring, Learning, Resting):
            self.assertIn("ticks_for", vars(kind))
            self.assertIn("KIND", vars(kind))

    def test_parameters_after_the_pace_are_given_by_keyword(self):
        for call in (lambda: Tiring("a", 1, 1, 1), lambda: Learning("a", 1, 1), lambda: Resting("a", 1, 1, 1)):
            with self.assertRaises(TypeError):
                call()


class TicksForTest(Case):
    def test_steady(self):
        self.assertEqual(first_paces(Worker("a", 7), 9), [7] * 9)
        self.assertEqual(Worker("a", 1000).ticks_for(10 ** 18), 1000)

    def test_tiring(self):
        self.assertEqual(first_paces(Tiring("a", 5, after=2, extra=3), 8), [5, 5, 8, 8, 11, 11, 14, 14])
        self.assertEqual(first_paces(Tiring("a", 1, after=1, extra=1), 5), [1, 2, 3, 4, 5])
        self.assertEqual(first_paces(Tiring("a", 5, after=1, extra=0), 5), [5] * 5)

    def test_tiring_up_to_1000(self):
        worker = Tiring("a", 10, after=3, extra=400)
        self.assertEqual(first_paces(worker, 12), [10] * 3 + [410] * 3 + [810] * 3 + [1000] * 3)
        exact = Tiring("a", 200, after=1, extra=400)
        self.assertEqual([exact.ticks_for(bucket) for bucket in (1, 2, 3, 10 ** 18)], [600, 1000, 1000, 1000])
        late = Tiring("a", 999, after=1000, extra=1000)
        self.assertEqual([late.ticks_for(bucket) for bucket in (0, 999, 1000)], [999, 999, 1000])

    def test_learning(self):
        self.assertEqual(first_paces(Learning("a", 5, best=2), 7), [5, 4, 3, 2, 2, 2, 2])
        self.assertEqual(first_paces(Learning("a", 5, best=5), 3), [5, 5, 5])
        self.assertEqual(first_paces(Learning("a", 1, best=1), 3), [1, 1, 1])
        self.assertEqual([Learning("a", 1000, best=1).ticks_for(bucket) for bucket in (0, 998, 999, 1000, 10 ** 18)],
                         [1000, 2, 1, 1, 1])

    def test_resting(self):
        self.assertEqual(first_paces(Resting("a", 5, after=3, rest=4), 9), [5, 5, 9] * 3)
        self.assertEqual(first_paces(Resting("a", 5, after=1, rest=4), 3), [9, 9, 9])
        self.assertEqual(first_paces(Resting("a", 5, after=2, rest=0), 4), [5] * 4)
        late = Resting("a", 5, after=1000, rest=1)
        self.assertEqual([late.ticks_for(bucket) for bucket in (998, 999, 1000, 1999)], [5, 6, 5, 6])

    def test_resting_may_take_more_than_1000(self):
        self.assertEqual(first_paces(Resting("a", 1000, after=2, rest=1000), 4), [1000, 2000, 1000, 2000])

    def test_against_what_is_counted_bucket_by_bucket(self):
        rows = random.Random(51)
        for _ in range(60):
            pace, after, more = rows.randint(1, 1000), rows.randint(1, 9), rows.randint(0, 60)
            best = rows.randint(max(1, pace - 40), pace)
            self.assertEqual(first_paces(Tiring("a", pace, after=after, extra=more), 60),
                             [tired(pace, after, more, bucket) for bucket in range(60)])
            self.assertEqual(first_paces(Learning("a", pace, best=best), 60),
                             [learned(pace, best, bucket) for bucket in range(60)])
            self.assertEqual(first_paces(Resting("a", pace, after=after, rest=more), 60),
                             [rested(pace, after, more, bucket) for bucket in range(60)])

    def test_far_buckets(self):
        self.assertEqual(Resting("a", 5, after=10, rest=4).ticks_for(10 ** 18 - 1), 9)
        self.assertEqual(Resting("a", 5, after=10, rest=4).ticks_for(10 ** 18), 5)


class InvalidWorkerTest(Case):
    def each_kind(self):
        return [
            lambda name, pace: Worker(name, pace),
            lambda name, pace: Tiring(name, pace, after=1, extra=0),
            lambda name, pace: Learning(name, pace, best=1),
            lambda name, pace: Resting(name, pace, after=1, rest=0),
        ]

    def test_names(self):
        for kind in self.each_kind():
            for name in ("a", "z", "abcdefgh"):
                self.assertEqual(kind(name, 3).ticks_for(0), 3)
            for name in ("", "abcdefghi", "Ann", "ann1", "a b", "ann\n", "\u00e4nn", 7):
                self.fails(InvalidWorker(part="name"), kind, name, 3)

    def test_paces(self):
        for kind in self.each_kind():
            self.assertEqual([kind("a", 1).ticks_for(0), kind("a", 1000).ticks_for(0)], [1, 1000])
            for pace in (0, -1, 1001, True):
                self.fails(InvalidWorker(part="pace"), kind, "a", pace)

    def test_after(self):
        for after in (1, 1000):
            self.assertEqual(Tiring("a", 5, after=after, extra=1).ticks_for(after), 6)
            self.assertEqual(Resting("a", 5, after=after, rest=1).ticks_for(after - 1), 6)
        for after in (0, -1, 1001, True):
            self.fails(InvalidWorker(part="after"), Tiring, "a", 5, after=after, extra=1)
            self.fails(InvalidWorker(part="after"), Resting, "a", 5, after=after, rest=1)

    def test_extra_and_rest(self):
        self.assertEqual(Tiring("a", 1, after=1, extra=0).ticks_for(1), 1)
        self.assertEqual(Tiring("a", 1, after=1, extra=1000).ticks_for(1), 1000)
        self.assertEqual(Resting("a", 1, after=1, rest=0).ticks_for(0), 1)
        self.assertEqual(Resting("a", 1, after=1, rest=1000).ticks_for(0), 1001)
        for more in (-1, 1001, True, False):
            self.fails(InvalidWorker(part="extra"), Tiring, "a", 5, after=1, extra=more)
            self.fails(InvalidWorker(part="rest"), Resting, "a", 5, after=1, rest=more)

    def test_best(self):
        self.assertEqual(Learning("a", 7, best=1).ticks_for(99), 1)
        self.assertEqual(Learning("a", 7, best=7).ticks_for(99), 7)
        for best in (0, -1, 8, 1001, True):
            self.fails(InvalidWorker(part="best"), Learning, "a", 7, best=best)

    def test_the_first_wrong_parameter_counts(self):
        self.fails(InvalidWorker(part="name"), Worker, "", 0)
        self.fails(InvalidWorker(part="name"), Tiring, "", 0, after=0, extra=-1)
        self.fails(InvalidWorker(part="pace"), Tiring, "a", 0, after=0, extra=-1)
        self.fails(InvalidWorker(part="after"), Tiring, "a", 1, after=0, extra=-1)
        self.fails(InvalidWorker(part="after"), Tiring, "a", 1, extra=-1, after=0)
        self.fails(InvalidWorker(part="name"), Learning, "", 0, best=0)
        self.fails(InvalidWorker(part="pace"), Learning, "a", 0, best=1)
        self.fails(InvalidWorker(part="name"), Resting, "", 0, after=0, rest=-1)
        self.fails(InvalidWorker(part="pace"), Resting, "a", 1001, after=0, rest=-1)
        self.fails(InvalidWorker(part="after"), Resting, "a", 1, rest=-1, after=0)


def some_workers(rows, many):
    """Return a list of workers, and the functions that tell their paces."""
    workers, paces = [], []
    for name in NAMES[:many]:
        pace, after, more = rows.randint(1, 20), rows.randint(1, 4), rows.randint(0, 15)
        best = rows.randint(1, pace)
        worker, told = rows.choice([
            (Worker(name, pace), lambda bucket, pace=pace: pace),
            (Tiring(name, pace, after=after, extra=more),
             lambda bucket, pace=pace, after=after, more=more: tired(pace, after, more, bucket)),
            (Learning(name, pace, best=best),
             lambda bucket, pace=pace, best=best: learned(pace, best, bucket)),
            (Resting(name, pace, after=after, rest=more),
             lambda bucket, pace=pace, after=after, more=more: rested(pace, after, more, bucket)),
        ])
        workers.append(worker)
        paces.append(told)
    return workers, paces


class PlayedTest(Case):
    def setUp(self):
        self.workers = [Tiring("a", 1, after=1, extra=1), Learning("b", 3, best=1), Resting("c", 2, after=2, rest=5)]

    def test_against_a_simulation_of_hands(self):
        rows = random.Random(52)
        for many in range(2, 13):
            for _ in range(6):
                workers, paces = some_workers(rows, many)
                held_from = ChangingHands(paces).run(25).held_from[-1]
                expected = [held_from[bucket] for bucket in range(25)]
                self.assertEqual(list(played(workers, 25)), expected, paces)
                self.assertEqual(ticks_needed(workers, 25), expected[-1])

    def test_steady_workers_against_arrivals(self):
        for paces in some_paces(2, seed=53):
            workers = [Worker(name, pace) for name, pace in zip(NAMES, paces)]
            expected = list(line_of(*paces).arrivals(0, 99))
            self.assertEqual(list(played(workers, 100)), expected, paces)
            self.assertEqual(ticks_needed(workers, 100), expected[-1])

    def test_changing_paces(self):
        # The paces of a are 1, 2 and 3, those of b 3, 2 and 1, those of c 2, 7 and 2.
        self.assertEqual(list(played(self.workers, 3)), [6, 15, 20])

    def test_two_people(self):
        workers = [Tiring("a", 1, after=1, extra=2), Worker("b", 4)]
        self.assertEqual(list(played(workers, 4)), [4, 8, 13, 20])

    def test_no_bucket_and_one_bucket(self):
        self.assertEqual([list(played(self.workers, 0)), list(played(self.workers, 1))], [[], [6]])
        self.assertEqual([ticks_needed(self.workers, 0), ticks_needed(self.workers, 1)], [0, 6])

    def test_greatest_number_of_buckets(self):
        workers = [Worker(name, 1000) for name in NAMES[:12]]
        ticks = list(played(workers, 2000))
        self.assertEqual([len(ticks), ticks[0], ticks[-1]], [2000, 11000, 11000 + 1999 * 2000])
        self.assertEqual(ticks_needed(workers, 2000), 11000 + 1999 * 2000)

    def test_wrong_numbers_of_buckets(self):
        for count in (-1, 2001, 10 ** 18, True, False):
            self.fails(InvalidNumber(), list, played(self.workers, count))
            self.fails(InvalidNumber(), ticks_needed, self.workers, count)

    def check_wrong_workers(self, index, workers):
        for count in (0, 3, -1, 2001):
            self.fails(InvalidLine(index=index), list, played(workers, count))
            self.fails(InvalidLine(index=index), ticks_needed, workers, count)

    def test_fewer_than_two_workers(self):
        self.check_wrong_workers(0, [])
        self.check_wrong_workers(1, [Worker("a", 1)])

    def test_repeated_names(self):
        self.check_wrong_workers(1, [Worker("a", 1), Learning("a", 2, best=1)])
        self.check_wrong_workers(3, [Worker(name, 1) for name in "abcbab"])

    def test_twelve_and_thirteen_workers(self):
        self.assertEqual(ticks_needed([Worker(name, 1) for name in NAMES[:12]], 1), 11)
        self.check_wrong_workers(12, [Worker(name, 1) for name in NAMES])
        self.check_wrong_workers(12, [Worker(name, 1) for name in "abcdefghijklaaa"])
        self.check_wrong_workers(11, [Worker(name, 1) for name in "abcdefghijkam"])

    def test_is_a_generator_that_raises_when_iteration_begins(self):
        ticks = played(self.workers, 3)
        self.assertEqual([next(ticks), next(ticks), next(ticks), next(ticks, None)], [6, 15, 20, None])
        late = played([], -1)
        self.fails(InvalidLine(index=0), next, late)
        late = played(self.workers, -1)
        self.fails(InvalidNumber(), next, late)

    def test_the_list_may_be_modified_between_ticks(self):
        workers = list(self.workers)
        ticks = played(workers, 3)
        seen = [next(ticks)]
        workers.clear()
        self.assertEqual(seen + list(ticks), [6, 15, 20])

    def test_workers_do_not_change(self):
        before = list(self.workers)
        first = list(played(self.workers, 30))
        self.assertEqual(list(played(self.workers, 30)), first)
        self.assertEqual(self.workers, before)
        self.assertEqual(first_paces(self.workers[0], 3), [1, 2, 3])


if __name__ == "__main__":
    unittest.main()
