"""Points 4 and 5: when buckets come to whom, and the pace in the long run."""

import unittest

from bucketline.errors import InvalidNumber, UnknownPerson
from bucketline.lines import Line, buckets_by, latest_begin, steady_from
from tests.cases import Case, line_of, some_paces
from tests.simulation import Hands, first_steady

FAR = 10 ** 18
NO_BUCKETS = (-1, FAR + 1, -FAR, True, False)


class DurationsTest(Case):
    def test_greater_pace_of_neighbors(self):
        self.assertEqual(line_of(2, 3).durations, (3,))
        self.assertEqual(line_of(9, 2, 3, 3, 1, 1000).durations, (9, 3, 3, 3, 1000))
        self.assertEqual(len(line_of(*[1] * 12).durations), 11)


class CallTest(Case):
    def test_against_a_simulation_of_hands(self):
        for paces in some_paces(2, seed=4):
            line = line_of(*paces)
            held_from = Hands(paces).run(40).held_from
            for place, name in enumerate(line.names):
                expected = [held_from[place][bucket] for bucket in range(40)]
                self.assertEqual([line(bucket, name) for bucket in range(40)], expected, paces)

    def test_two_people(self):
        line = line_of(2, 5)
        self.assertEqual([line(bucket, "ann") for bucket in range(4)], [0, 5, 10, 15])
        self.assertEqual([line(bucket, "bob") for bucket in range(4)], [5, 10, 15, 20])
        self.assertEqual([line(FAR, "ann"), line(FAR, "bob")], [5 * FAR, 5 * FAR + 5])

    def test_buckets_wait_for_a_slow_part_behind(self):
        # Durations 1, 1, 7 and 7: the hands ahead of the slow part fill up one by one.
        line = line_of(1, 1, 1, 7, 1)
        self.assertEqual([line(bucket, "ann") for bucket in range(6)], [0, 1, 3, 11, 25, 39])
        self.assertEqual([line(bucket, "eve") for bucket in range(6)], [16, 30, 44, 58, 72, 86])

    def test_far_buckets_for_people_ahead_of_a_slow_part(self):
        line = line_of(1, 1, 1, 7, 1)
        self.assertEqual(line(FAR, "ann"), 39 + (FAR - 5) * 14)
        self.assertEqual(line(FAR, "eve"), 16 + FAR * 14)

    def test_far_buckets_against_near_ones(self):
        for paces in some_paces(2, seed=5):
            line = line_of(*paces)
            near = steady_from(line) + 1
            held_from = Hands(paces).run(near + 1).held_from
            for place, name in enumerate(line.names):
                for bucket in (near + 1, near + 1000, 10 ** 9 + 7, FAR - 1, FAR):
                    expected = held_from[place][near] + (bucket - near) * line.pace
                    self.assertEqual(line(bucket, name), expected, paces)

    def test_greatest_paces_of_twelve_people(self):
        line = line_of(*[1000] * 12)
        self.assertEqual(line(FAR, "lea"), 2000 * FAR + 11000)
        self.assertEqual(line(FAR, "ann"), 2000 * FAR - 1000)

    def test_first_person_holds_bucket_0_at_tick_0(self):
        for paces in ([1, 1], [1000, 1], [5, 9, 1]):
            self.assertEqual(line_of(*paces)(0, "ann"), 0)

    def test_wrong_buckets(self):
        for bucket in NO_BUCKETS:
            self.fails(InvalidNumber(), line_of(2, 3, 1), bucket, "bob")

    def test_unknown_people(self):
        self.fails(UnknownPerson(name="dan"), line_of(2, 3, 1), 0, "dan")
        self.fails(UnknownPerson(name=""), line_of(2, 3, 1), FAR, "")

    def test_the_bucket_is_checked_first(self):
        for bucket in NO_BUCKETS:
            self.fails(InvalidNumber(), line_of(2, 3, 1), bucket, "dan")


class ArrivalsTest(Case):
    def setUp(self):
        self.line = line_of(2, 3, 1)

    def test_against_calls(self):
        for paces in some_paces(1, seed=6):
            line = line_of(*paces)
            last = line.names[-1]
            self.assertEqual(list(line.arrivals(3, 30)), [line(bucket, last) for bucket in range(3, 31)])

    def test_one_bucket(self):
        self.assertEqual(list(self.line.arrivals(0, 0)), [6])
        self.assertEqual(list(self.line.arrivals(FAR, FAR)), [6 * FAR + 6])

    def test_exactly_as_many_as_allowed(self):
        self.assertEqual(list(self.line.arrivals(0, 9999)), list(range(6, 60001, 6)))
        ticks = list(self.line.arrivals(FAR - 9999, FAR))
        self.assertEqual([len(ticks), ticks[-1]], [10000, 6 * FAR + 6])

    def test_one_more_than_allowed(self):
        self.fails(InvalidNumber(), list, self.line.arrivals(0, 10000))
        self.fails(InvalidNumber(), list, self.line.arrivals(FAR - 10000, FAR))
        self.fails(InvalidNumber(), list, self.line.arrivals(0, FAR))

    def test_wrong_buckets(self):
        for bucket in NO_BUCKETS:
            self.fails(InvalidNumber(), list, self.line.arrivals(bucket, 5))
            self.fails(InvalidNumber(), list, self.line.arrivals(0, bucket))
        self.fails(InvalidNumber(), list, self.line.arrivals(FAR, FAR + 1))

    def test_last_is_less_than_first(self):
        self.fails(InvalidNumber(), list, self.line.arrivals(5, 4))
        self.fails(InvalidNumber(), list, self.line.arrivals(FAR, 0))

    def test_is_a_generator_that_raises_when_iteration_begins(self):
        ticks = self.line.arrivals(1, 3)
        self.assertEqual([next(ticks), next(ticks), next(ticks), next(ticks, None)], [12, 18, 24, None])
        late = self.line.arrivals(5, 4)
        self.fails(InvalidNumber(), next, late)


class PaceTest(Case):
    def test_two_people(self):
        self.assertEqual([line_of(2, 5).pace, line_of(1000, 1).pace, line_of(1, 1).pace], [5, 1000, 1])

    def test_greatest_sum_of_successive_durations(self):
        self.assertEqual(line_of(9, 1, 2).pace, 11)
        self.assertEqual(line_of(1, 2, 9, 1, 1, 8).pace, 18)
        self.assertEqual(line_of(7, 1, 1, 4, 5, 1).pace, 10)
        self.assertEqual(line_of(*[1000] * 12).pace, 2000)

    def test_is_what_buckets_take_in_the_long_run(self):
        for paces in some_paces(1, seed=7):
            line = line_of(*paces)
            for name in line.names:
                self.assertEqual(line(FAR, name) - line(FAR - 1, name), line.pace)


class SteadyFromTest(Case):
    def test_steady_from_the_beginning(self):
        self.assertEqual(steady_from(line_of(4, 7)), 0)
        self.assertEqual(steady_from(line_of(9, 1, 2, 3)), 0)
        self.assertEqual(steady_from(line_of(*[1000] * 12)), 0)

    def test_a_slow_part_behind(self):
        # Ann's hand-overs end at 1, 3, 11, 25, 39 ..: from bucket 2 on by the pace of 14.
        self.assertEqual(steady_from(line_of(1, 1, 1, 7, 1)), 2)

    def test_slow_parts_that_hardly_differ(self):
        # Durations 999, 999, 500, 1000 and 1000, pace 2000: the first turn takes 1998
        # ticks. What waits at the end is up to 1003 ticks behind, and gains 2 each time.
        line = Line(("a", 999), ("b", 999), ("c", 500), ("d", 500), ("e", 1000), ("f", 999))
        self.assertEqual(steady_from(line), 502)
        ends = [[line(bucket, name) for name in "bcdef"] for bucket in range(501, 505)]
        steps = [[late - early for early, late in zip(*rows)] for rows in zip(ends, ends[1:])]
        self.assertEqual(steps, [[1999, 2000, 2000, 2000, 2000]] + [[2000] * 5] * 2)

    def test_against_a_simulation_of_hands(self):
        for paces in some_paces(2, seed=8):
            line = line_of(*paces)
            self.assertEqual(steady_from(line), first_steady(paces, line.pace, 120), paces)


class BucketsByTest(Case):
    def test_ticks_at_which_a_bucket_arrives_and_one_less(self):
        for paces in ([2, 3, 1], [4, 9], [1, 5, 2, 2, 8, 1], [1] * 12):
            line = line_of(*paces)
            for bucket, tick in enumerate(line.arrivals(0, 20)):
                self.assertEqual(buckets_by(line, tick), bucket + 1)
                self.assertEqual(buckets_by(line, tick - 1), bucket)

    def test_against_a_simulation_of_hands(self):
        for paces in some_paces(1, seed=9):
            line = line_of(*paces)
            ticks = Hands(paces).run(20).held_from[-1].values()
            for tick in range(max(ticks) + 1):
                self.assertEqual(buckets_by(line, tick), len([seen for seen in ticks if seen <= tick]))

    def test_ends_of_the_range(self):
        line = line_of(2, 3, 1)
        self.assertEqual([buckets_by(line, 0), buckets_by(line, 5), buckets_by(line, 6)], [0, 0, 1])
        self.assertEqual(buckets_by(line, FAR), FAR // 6)
        self.assertEqual(buckets_by(line_of(1, 1), FAR), FAR)

    def test_wrong_ticks(self):
        for tick in NO_BUCKETS:
            self.fails(InvalidNumber(), buckets_by, line_of(2, 3, 1), tick)


class LatestBeginTest(Case):
    def setUp(self):
        self.line = line_of(2, 3, 1)

    def test_deadlines_at_which_it_is_0_and_one_less(self):
        for count in (1, 2, 3, 1000, FAR):
            arrival = self.line(count - 1, "cid")
            self.assertEqual(latest_begin(self.line, count, arrival), 0)
            self.assertIsNone(latest_begin(self.line, count, arrival - 1))
            self.assertEqual(latest_begin(self.line, count, arrival + 77), 77)

    def test_ends_of_the_ranges(self):
        self.assertIsNone(latest_begin(self.line, 1, 0))
        self.assertEqual(latest_begin(self.line, 1, 10 ** 24), 10 ** 24 - 6)
        self.assertEqual(latest_begin(self.line, FAR, 10 ** 24), 10 ** 24 - 6 * FAR)
        self.assertEqual(latest_begin(line_of(*[1000] * 12), FAR, 10 ** 24), 10 ** 24 - 2000 * FAR - 9000)

    def test_wrong_numbers(self):
        for count in (0, -1, FAR + 1, True):
            self.fails(InvalidNumber(), latest_begin, self.line, count, 10 ** 24)
        for deadline in (-1, 10 ** 24 + 1, True, False):
            self.fails(InvalidNumber(), latest_begin, self.line, 1, deadline)
        self.fails(InvalidNumber(), latest_begin, self.line, FAR, -1)


if __name__ == "__main__":
    unittest.main()
