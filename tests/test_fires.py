"""Point 12: fires, and with which bucket a line puts them out."""

import random
import unittest

from bucketline.errors import InvalidFire, InvalidNumber
from bucketline.fires import Fire, largest_fire, put_out
from bucketline.lines import Line
from tests.cases import Case, line_of, some_paces
from tests.simulation import Hands

FAR = 10 ** 18


def burned(paces, size, growth, water, ticks):
    """Return (bucket, tick) when a fire is out, tick by tick, or None if it is not by a tick."""
    hands = Hands(paces)
    for tick in range(1, ticks + 1):
        before = hands.arrived()
        hands.wait(1)
        size += growth
        if hands.arrived() > before:
            size -= water
            if size <= 0:
                return before, tick
    return None


class FireTest(Case):
    def test_left_is_counted_tick_by_tick(self):
        fire = Fire(50, growth=3, water=11)
        for bucket in range(9):
            for tick in range(30):
                left = 50
                for _ in range(tick):
                    left += 3
                for _ in range(bucket + 1):
                    left -= 11
                self.assertEqual(fire.left(bucket, tick), left)

    def test_less_than_0_may_be_left(self):
        self.assertEqual(Fire(5, growth=0, water=7).left(0, 9), -2)
        self.assertEqual(Fire(5, growth=0, water=7).left(9, 9), -65)

    def test_left_of_the_greatest_fire(self):
        fire = Fire(10 ** 15, growth=10 ** 6, water=10 ** 9)
        self.assertEqual(fire.left(0, 0), 10 ** 15 - 10 ** 9)
        self.assertEqual(fire.left(FAR, FAR), 10 ** 15 + 10 ** 24 - 10 ** 27 - 10 ** 9)

    def test_ends_of_all_ranges(self):
        self.assertEqual(Fire(1, growth=0, water=1).left(0, 5), 0)
        self.assertEqual(Fire(10 ** 15, growth=0, water=1).left(0, 5), 10 ** 15 - 1)
        self.assertEqual(Fire(1, growth=10 ** 6, water=1).left(0, 5), 5 * 10 ** 6)
        self.assertEqual(Fire(1, growth=0, water=10 ** 9).left(0, 5), 1 - 10 ** 9)

    def test_wrong_sizes(self):
        for size in (0, -1, 10 ** 15 + 1, True, False, "9", None):
            self.fails(InvalidFire(part="size"), Fire, size, growth=0, water=1)

    def test_wrong_growths(self):
        for growth in (-1, 10 ** 6 + 1, True, False, "9", None):
            self.fails(InvalidFire(part="growth"), Fire, 1, growth=growth, water=1)

    def test_wrong_waters(self):
        for water in (0, -1, 10 ** 9 + 1, True, False, "9", None):
            self.fails(InvalidFire(part="water"), Fire, 1, growth=0, water=water)

    def test_the_first_wrong_number_counts(self):
        self.fails(InvalidFire(part="size"), Fire, 0, growth=-1, water=0)
        self.fails(InvalidFire(part="size"), Fire, 0, growth=1, water=0)
        self.fails(InvalidFire(part="growth"), Fire, 1, water=0, growth=-1)

    def test_growth_and_water_are_given_by_keyword(self):
        with self.assertRaises(TypeError):
            Fire(10, 1, 7)

    def test_the_class_has_its_own_method(self):
        self.assertIn("left", vars(Fire))


class PutOutTest(Case):
    def setUp(self):
        self.line = line_of(2, 3, 1)

    def test_against_a_fire_that_burns_tick_by_tick(self):
        rows = random.Random(61)
        for paces in some_paces(2, seed=62):
            line = line_of(*paces)
            growth = rows.randint(0, 5)
            water = max(1, growth * line.pace + rows.randint(-2, 20))
            size = rows.randint(1, 60)
            found = put_out(line, Fire(size, growth=growth, water=water))
            ticks = 2000 if found is None else found[1]
            self.assertEqual(found, burned(paces, size, growth, water, ticks), (paces, size, growth, water))
            self.assertEqual(found is None, water <= growth * line.pace)

    def test_exactly_0_is_left(self):
        # Bucket 2 comes in tick 18: 24 less three times 8.
        self.assertEqual(put_out(self.line, Fire(24, growth=0, water=8)), (2, 18))
        self.assertEqual(put_out(self.line, Fire(25, growth=0, water=8)), (3, 24))
        self.assertEqual(put_out(self.line, Fire(6, growth=1, water=9)), (1, 12))
        self.assertEqual(put_out(self.line, Fire(7, growth=1, water=9)), (2, 18))

    def test_the_first_bucket_is_enough(self):
        self.assertEqual(put_out(self.line, Fire(1, growth=0, water=1)), (0, 6))
        self.assertEqual(put_out(self.line, Fire(1, growth=0, water=10 ** 9)), (0, 6))
        self.assertEqual(put_out(self.line, Fire(3, growth=1, water=9)), (0, 6))
        self.assertEqual(put_out(self.line, Fire(4, growth=1, water=9)), (1, 12))

    def test_as_much_water_as_the_fire_grows_is_not_enough(self):
        self.assertIsNone(put_out(self.line, Fire(1, growth=1, water=6)))
        self.assertEqual(put_out(self.line, Fire(1, growth=1, water=7)), (0, 6))
        self.assertIsNone(put_out(self.line, Fire(1, growth=1, water=5)))
        self.assertIsNone(put_out(line_of(5, 2), Fire(1, growth=2, water=10)))
        self.assertEqual(put_out(line_of(5, 2), Fire(1, growth=2, water=11)), (0, 5))

    def test_two_people(self):
        self.assertEqual(put_out(line_of(4, 5), Fire(8, growth=1, water=6)), (7, 40))

    def test_a_line_with_a_long_way(self):
        # Bucket 0 comes in tick 11, each next one 2 ticks later.
        line = line_of(*[1] * 12)
        self.assertEqual(put_out(line, Fire(1, growth=1, water=3)), (9, 29))
        self.assertEqual(put_out(line, Fire(1, growth=1, water=12)), (0, 11))

    def test_limits_of_all_numbers(self):
        slow = line_of(*[1000] * 12)
        self.assertIsNone(put_out(slow, Fire(10 ** 15, growth=10 ** 6, water=10 ** 9)))
        self.assertEqual(put_out(slow, Fire(10 ** 15, growth=0, water=1)),
                         (10 ** 15 - 1, 2000 * (10 ** 15 - 1) + 11000))
        # Each bucket gains 1 on the fire that the first one leaves.
        fire = Fire(10 ** 15, growth=499999, water=999998001)
        bucket = 10 ** 15 + 499999 * 11000 - 999998001
        self.assertEqual(put_out(slow, fire), (bucket, 2000 * bucket + 11000))
        fast = line_of(1, 1)
        self.assertEqual(put_out(fast, Fire(10 ** 15, growth=10 ** 6, water=10 ** 9)), (1001001, 1001002))

    def test_the_bucket_before_leaves_something(self):
        rows = random.Random(63)
        for paces in some_paces(2, seed=64):
            line = line_of(*paces)
            growth = rows.randint(0, 10 ** 6)
            water = growth * line.pace + rows.choice((1, 2, 99, 10 ** 5))
            fire = Fire(rows.randint(1, 10 ** 15), growth=growth, water=water)
            bucket, tick = put_out(line, fire)
            last = line.names[-1]
            self.assertEqual(tick, line(bucket, last))
            self.assertLessEqual(fire.left(bucket, tick), 0)
            if bucket > 0:
                self.assertGreater(fire.left(bucket - 1, line(bucket - 1, last)), 0)


class LargestFireTest(Case):
    def setUp(self):
        self.line = line_of(2, 3, 1)

    def test_against_fires_of_all_sizes(self):
        rows = random.Random(65)
        for paces in some_paces(1, seed=66)[::2]:
            line = line_of(*paces)
            growth = rows.randint(0, 2)
            water = max(1, growth * line.pace + rows.randint(-1, 4))
            for tick in (0, 3, 17, rows.randint(0, 100), rows.randint(0, 100)):
                sizes = [size for size in range(1, 500) if self.is_out(line, size, growth, water, tick)]
                self.assertEqual(largest_fire(line, growth, water, tick), max(sizes, default=0))

    def is_out(self, line, size, growth, water, tick):
        found = put_out(line, Fire(size, growth=growth, water=water))
        return found is not None and found[1] <= tick

    def test_the_tick_is_included(self):
        line = self.line
        self.assertEqual([largest_fire(line, 0, 5, tick) for tick in (0, 5, 6, 7, 11, 12)], [0, 0, 5, 5, 5, 10])
        self.assertEqual([largest_fire(line, 1, 7, tick) for tick in (59, 60, 65, 66)], [9, 10, 10, 11])

    def test_as_much_water_as_the_fire_grows_is_not_enough(self):
        self.assertEqual([largest_fire(self.line, 1, water, 10 ** 6) for water in (5, 6)], [0, 0])
        self.assertEqual([largest_fire(self.line, 1, 7, 10 ** 6)], [166666])

    def test_the_first_buckets_make_up_for_the_way(self):
        # Bucket 0 comes in tick 11, when 11 have grown, and each next one gains 1.
        line = line_of(*[1] * 12)
        self.assertEqual([largest_fire(line, 1, 3, tick) for tick in (11, 27, 29, 31)], [0, 0, 1, 2])

    def test_fires_of_any_size(self):
        self.assertEqual(largest_fire(line_of(1, 1), 0, 10 ** 9, FAR), 10 ** 27)
        self.assertEqual(largest_fire(line_of(1, 1), 10 ** 6, 10 ** 9, FAR), (10 ** 9 - 10 ** 6) * FAR)
        self.assertEqual(largest_fire(self.line, 0, 10 ** 9, 6 * 10 ** 6), 10 ** 15)
        self.assertEqual(largest_fire(self.line, 0, 10 ** 9, 6 * 10 ** 6 + 6), 10 ** 15 + 10 ** 9)

    def test_limits_of_all_numbers(self):
        self.assertEqual(largest_fire(self.line, 0, 1, 0), 0)
        self.assertEqual(largest_fire(self.line, 0, 1, FAR), FAR // 6)
        self.assertEqual(largest_fire(line_of(*[1000] * 12), 10 ** 6, 10 ** 9, FAR), 0)
        self.assertEqual(largest_fire(line_of(*[1000] * 12), 10 ** 6, 1, FAR), 0)

    def test_wrong_numbers(self):
        for growth in (-1, 10 ** 6 + 1, True, False):
            self.fails(InvalidFire(part="growth"), largest_fire, self.line, growth, 7, 60)
        for water in (0, -1, 10 ** 9 + 1, True, False):
            self.fails(InvalidFire(part="water"), largest_fire, self.line, 1, water, 60)
        for tick in (-1, FAR + 1, True, False):
            self.fails(InvalidNumber(), largest_fire, self.line, 1, 7, tick)

    def test_numbers_are_checked_in_order(self):
        self.fails(InvalidFire(part="growth"), largest_fire, self.line, -1, 0, -1)
        self.fails(InvalidFire(part="water"), largest_fire, self.line, 1, 0, -1)
        self.fails(InvalidNumber(), largest_fire, self.line, 2, 5, -1)

    def test_a_put_out_fire_is_the_largest_one_by_its_tick(self):
        rows = random.Random(67)
        for paces in some_paces(1, seed=68):
            line = line_of(*paces)
            growth = rows.randint(0, 9)
            water = growth * line.pace + rows.randint(1, 9)
            size = largest_fire(line, growth, water, 10 ** 6)
            bucket, tick = put_out(line, Fire(size, growth=growth, water=water))
            self.assertLessEqual(tick, 10 ** 6)
            late = put_out(line, Fire(size + 1, growth=growth, water=water))
            self.assertEqual(late[0], bucket + 1)
            self.assertGreater(late[1], 10 ** 6)

    def test_lines_with_other_names(self):
        line = Line(("zoe", 2), ("max", 3), ("abcdefgh", 1))
        self.assertEqual([put_out(line, Fire(10, growth=1, water=7)), largest_fire(line, 1, 7, 60)], [(9, 60), 10])


if __name__ == "__main__":
    unittest.main()
