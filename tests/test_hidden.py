"""Point 10: a pace that is not known."""

import random
import unittest

from bucketline.errors import Contradiction, InvalidNumber, UnknownPerson
from bucketline.hidden import PaceObserver
from bucketline.lines import Line
from tests.cases import Case, line_of, some_paces

FAR = 10 ** 18
ALL_PACES = range(1, 1001)


def with_pace(line, name, pace):
    """Return the line in which somebody has another pace."""
    return Line(*[(other, pace if other == name else own) for other, own in line.people])


def fitting(line, name, paces, records):
    """Return the paces with which all observations are as they were seen."""
    found = []
    for pace in paces:
        tried = with_pace(line, name, pace)
        if all(tried(bucket, seen) == tick for bucket, seen, tick in records):
            found.append(pace)
    return found


def first_telling(line, name, paces, limit):
    """Return the first bucket that arrives at different ticks for all paces, or None."""
    lines = [with_pace(line, name, pace) for pace in paces]
    for bucket in range(limit + 1):
        ticks = {tried(bucket, line.names[-1]) for tried in lines}
        if len(ticks) == len(lines):
            return bucket
    return None


class SeeTest(Case):
    def setUp(self):
        self.line = line_of(2, 3, 1)

    def test_against_a_search_through_all_paces(self):
        rows = random.Random(41)
        for paces in some_paces(1, seed=42)[::2]:
            line = line_of(*paces)
            hidden = rows.choice(line.names)
            true_line = with_pace(line, hidden, rows.choice((1, 3, 17, 400, 1000)))
            observer = PaceObserver(line, hidden)
            possible, records = ALL_PACES, []
            for _ in range(4):
                bucket = rows.choice((0, 1, 2, 9, 10 ** 6, FAR))
                name = rows.choice(line.names)
                record = (bucket, name, true_line(bucket, name))
                possible = fitting(line, hidden, possible, [record])
                records.append(record)
                self.assertEqual(observer.see(*record), len(possible), (paces, hidden, records))
                self.assertEqual(observer.possible_paces, (possible[0], possible[-1]))
                self.assertEqual(observer.records, records)

    def test_each_tick_that_may_be_seen(self):
        for hidden in ("ann", "bob", "cid"):
            for seen in ((0, "bob"), (1, "ann"), (2, "cid")):
                for tick in range(45):
                    possible = fitting(self.line, hidden, ALL_PACES, [(*seen, tick)])
                    observer = PaceObserver(self.line, hidden)
                    if possible:
                        self.assertEqual(observer.see(*seen, tick), len(possible))
                        self.assertEqual(observer.possible_paces, (possible[0], possible[-1]))
                    else:
                        self.fails(Contradiction(), observer.see, *seen, tick)

    def test_all_paces_are_possible_at_first(self):
        for name in ("ann", "bob", "cid"):
            observer = PaceObserver(self.line, name)
            self.assertEqual([observer.possible_paces, observer.records], [(1, 1000), []])

    def test_the_own_pace_does_not_matter(self):
        for pace in (1, 3, 1000):
            observer = PaceObserver(line_of(2, pace, 1), "bob")
            self.assertEqual([observer.see(0, "bob", 700), observer.possible_paces], [1, (700, 700)])

    def test_what_tells_nothing(self):
        observer = PaceObserver(self.line, "bob")
        self.assertEqual(observer.see(0, "ann", 0), 1000)
        self.assertEqual([observer.possible_paces, observer.records], [(1, 1000), [(0, "ann", 0)]])

    def test_least_and_greatest_pace(self):
        self.assertEqual(PaceObserver(self.line, "bob").see(0, "cid", 2000), 1)
        self.fails(Contradiction(), PaceObserver(self.line, "bob").see, 0, "cid", 2001)
        self.assertEqual(PaceObserver(self.line, "bob").see(0, "cid", 3), 1)
        self.fails(Contradiction(), PaceObserver(self.line, "bob").see, 0, "cid", 2)

    def test_paces_that_the_neighbor_hides(self):
        observer = PaceObserver(line_of(600, 3), "bob")
        self.assertEqual([observer.see(9, "bob", 6000), observer.possible_paces], [600, (1, 600)])

    def test_far_buckets(self):
        observer = PaceObserver(self.line, "bob")
        self.assertEqual(observer.see(FAR, "cid", 2 * 77 * (FAR + 1)), 1)
        self.assertEqual(observer.possible_paces, (77, 77))
        self.assertEqual(observer.see(FAR, "ann", 2 * 77 * FAR - 77), 1)
        self.fails(Contradiction(), observer.see, FAR, "cid", 2 * 77 * (FAR + 1) + 1)

    def test_repeated_observations_are_all_recorded(self):
        observer = PaceObserver(self.line, "bob")
        self.assertEqual([observer.see(0, "bob", 2), observer.see(0, "bob", 2)], [2, 2])
        self.assertEqual(observer.records, [(0, "bob", 2), (0, "bob", 2)])

    def test_what_contradicts_is_not_recorded(self):
        observer = PaceObserver(self.line, "bob")
        observer.see(0, "bob", 2)
        for record in ((0, "bob", 3), (0, "cid", 5), (0, "ann", 1), (1, "ann", 1), (0, "bob", -2)):
            self.fails(Contradiction(), observer.see, *record)
            self.assertEqual([observer.possible_paces, observer.records], [(1, 2), [(0, "bob", 2)]])
        self.assertEqual(observer.see(0, "cid", 4), 1)
        self.assertEqual(observer.records, [(0, "bob", 2), (0, "cid", 4)])

    def test_a_boolean_is_no_tick(self):
        observer = PaceObserver(line_of(1, 1), "bob")
        self.fails(Contradiction(), observer.see, 0, "ann", False)
        self.fails(Contradiction(), observer.see, 0, "bob", True)
        self.assertEqual([observer.possible_paces, observer.records], [(1, 1000), []])
        self.assertEqual(observer.see(0, "bob", 1), 1)

    def test_only_one_possible_pace_contradicts_no_less(self):
        observer = PaceObserver(self.line, "bob")
        self.assertEqual(observer.see(0, "bob", 9), 1)
        self.fails(Contradiction(), observer.see, 0, "cid", 17)
        self.assertEqual(observer.see(0, "cid", 18), 1)

    def test_wrong_buckets(self):
        observer = PaceObserver(self.line, "bob")
        for bucket in (-1, FAR + 1, True, False):
            self.fails(InvalidNumber(), observer.see, bucket, "bob", 2)
            self.fails(InvalidNumber(), observer.see, bucket, "dan", -1)
        self.assertEqual([observer.possible_paces, observer.records], [(1, 1000), []])

    def test_unknown_people(self):
        self.fails(UnknownPerson(name="dan"), PaceObserver, self.line, "dan")
        observer = PaceObserver(self.line, "bob")
        self.fails(UnknownPerson(name="dan"), observer.see, 0, "dan", 2)
        self.fails(UnknownPerson(name=""), observer.see, FAR, "", -1)
        self.assertEqual([observer.possible_paces, observer.records], [(1, 1000), []])

    def test_records_may_be_modified(self):
        observer = PaceObserver(self.line, "bob")
        observer.see(0, "bob", 2)
        observer.records.clear()
        self.assertEqual(observer.records, [(0, "bob", 2)])

    def test_observers_share_nothing(self):
        one, other = PaceObserver(self.line, "bob"), PaceObserver(self.line, "bob")
        one.see(0, "bob", 9)
        self.assertEqual([other.possible_paces, other.records], [(1, 1000), []])
        self.assertEqual(self.line, line_of(2, 3, 1))

    def test_properties_cannot_be_assigned(self):
        for name in ("possible_paces", "records"):
            with self.assertRaises(AttributeError):
                setattr(PaceObserver(self.line, "bob"), name, ())


class TellingBucketTest(Case):
    def test_against_a_search_through_all_paces(self):
        rows = random.Random(43)
        for paces in some_paces(1, seed=44)[::2]:
            line = line_of(*paces)
            hidden = rows.choice(line.names)
            observer = PaceObserver(line, hidden)
            limit = rows.choice((0, 1, 3))
            expected = first_telling(line, hidden, ALL_PACES, limit)
            self.assertEqual(observer.telling_bucket(limit), expected, (paces, hidden))

    def test_ranges_of_paces_against_a_search(self):
        line = line_of(4, 1, 6, 2)
        for hidden in line.names:
            for bucket, name in ((0, "bob"), (1, "ann"), (1, "cid"), (2, "dan")):
                for pace in range(1, 9):
                    observer = PaceObserver(line, hidden)
                    observer.see(bucket, name, with_pace(line, hidden, pace)(bucket, name))
                    low, high = observer.possible_paces
                    expected = first_telling(line, hidden, range(low, high + 1), 8)
                    self.assertEqual(observer.telling_bucket(8), expected, (hidden, low, high))

    def test_bucket_0_tells_all_paces(self):
        for line in (line_of(1, 5, 9), line_of(1, 5)):
            self.assertEqual(PaceObserver(line, "bob").telling_bucket(200), 0)
        # The pace 1 and the pace 2 of bob are different only for cid.
        self.assertEqual(PaceObserver(line_of(2, 3, 1), "bob").telling_bucket(0), 0)

    def test_no_bucket_tells_all_paces(self):
        line = line_of(2, 3, 2)
        self.assertIsNone(first_telling(line, "bob", ALL_PACES, 200))
        for limit in (0, 1, 200):
            self.assertIsNone(PaceObserver(line, "bob").telling_bucket(limit))

    def test_only_one_pace_is_possible(self):
        observer = PaceObserver(line_of(2, 3, 2), "bob")
        observer.see(0, "bob", 3)
        self.assertEqual([observer.possible_paces, observer.telling_bucket(0)], [(3, 3), 0])
        self.assertEqual(observer.telling_bucket(200), 0)
        greatest = PaceObserver(line_of(2, 3, 2), "bob")
        greatest.see(0, "bob", 1000)
        self.assertEqual([greatest.possible_paces, greatest.telling_bucket(200)], [(1000, 1000), 0])

    def test_telling_changes_nothing(self):
        observer = PaceObserver(line_of(2, 3, 2), "bob")
        self.assertEqual([observer.telling_bucket(9), observer.telling_bucket(9)], [None, None])
        self.assertEqual([observer.possible_paces, observer.records], [(1, 1000), []])

    def test_wrong_limits(self):
        observer = PaceObserver(line_of(2, 3, 2), "bob")
        for limit in (-1, 201, 10 ** 18, True, False):
            self.fails(InvalidNumber(), observer.telling_bucket, limit)
        observer.see(0, "bob", 3)
        self.fails(InvalidNumber(), observer.telling_bucket, 201)


if __name__ == "__main__":
    unittest.main()
