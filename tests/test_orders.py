"""Points 8 and 9: orders of the same people, and the people to train."""

import functools
import itertools
import unittest

from bucketline.errors import InvalidNumber, TooManyPeople
from bucketline.lines import Line
from bucketline.orders import best_order, fewest_trained, good_line, least_pace
from tests.cases import Case, line_of, some_paces


def pace_of(paces):
    """Return the pace of a line, straight from points 4 and 5."""
    durations = [max(pair) for pair in zip(paces, paces[1:])]
    return max([sum(pair) for pair in zip(durations, durations[1:])] or durations)


def best_of_all_orders(paces):
    """Return the least pace of all orders, and the places of the first one with it."""
    orders = itertools.permutations(range(len(paces)))
    return min((pace_of([paces[place] for place in order]), order) for order in orders)


@functools.cache
def least_rest(two, paces):
    """Return the least pace of the people `paces` behind the two people `two`."""
    if not paces:
        return 0
    found = []
    for pace in set(paces):
        others = list(paces)
        others.remove(pace)
        turn = pace_of([*two, pace])
        found.append(max(turn, least_rest((two[-1], pace), tuple(others))))
    return min(found)


def least_of_many(paces):
    """Return the least pace of all orders of many people who have few paces."""
    found = []
    for first, second in set(itertools.permutations(paces, 2)):
        others = list(paces)
        others.remove(first)
        others.remove(second)
        found.append(max(max(first, second), least_rest((first, second), tuple(sorted(others)))))
    return min(found)


class OrdersTest(Case):
    def check_all_orders(self, *paces):
        line = line_of(*paces)
        pace, order = best_of_all_orders(paces)
        good = good_line(line)
        self.assertIsInstance(good, Line)
        self.assertEqual(least_pace(line), pace, paces)
        self.assertEqual(good.pace, pace, paces)
        self.assertEqual(sorted(good.people), sorted(line.people))
        self.assertEqual(best_order(line), Line(*[line.people[place] for place in order]), paces)

    def test_all_lines_with_few_paces(self):
        for people, top in ((2, 4), (3, 4), (4, 4), (5, 3), (6, 2)):
            for paces in itertools.product(range(1, top + 1), repeat=people):
                self.check_all_orders(*paces)

    def test_some_lines_of_two_to_seven_people(self):
        for paces in some_paces(2, seed=31):
            if len(paces) <= 7:
                self.check_all_orders(*paces)

    def test_equal_paces(self):
        for people in range(2, 8):
            self.check_all_orders(*[5] * people)
            line = line_of(*[5] * people)
            self.assertEqual(best_order(line), line)

    def test_two_people(self):
        self.assertEqual([least_pace(line_of(3, 8)), least_pace(line_of(8, 3))], [8, 8])
        self.assertEqual(best_order(line_of(8, 3)), line_of(8, 3))

    def test_least_and_greatest_paces(self):
        self.check_all_orders(1, 1000)
        self.check_all_orders(1000, 1, 1000, 1, 1000, 1, 1000)
        self.check_all_orders(1000, 999, 1, 2, 3, 998, 997)

    def test_the_two_slowest_need_different_people(self):
        # 10 needs 1 and 2 beside it; 9 is content with 3 and 4.
        self.assertEqual(least_pace(line_of(10, 9, 4, 3, 2, 1)), 13)
        self.assertEqual(least_pace(line_of(10, 9, 3, 2, 1)), 12)
        self.assertEqual(least_pace(line_of(10, 9, 6, 1, 1, 1, 1)), 12)

    def test_many_people_against_all_orders(self):
        for paces in some_paces(4, seed=32):
            paces = [(pace + 4) // 5 * 5 for pace in paces]
            self.assertEqual(least_pace(line_of(*paces)), least_of_many(paces), paces)
            self.assertEqual(good_line(line_of(*paces)).pace, least_of_many(paces), paces)

    def test_good_line_of_twelve_people(self):
        for paces in (range(1, 13), range(989, 1001), [1000] * 12, [1] * 10 + [1000] * 2, [7, 900] * 6):
            line = line_of(*paces)
            good = good_line(line)
            self.assertEqual(sorted(good.people), sorted(line.people))
            self.assertEqual(good.pace, least_pace(line))
        self.assertEqual(least_pace(line_of(*range(1, 13))), 20)
        self.assertEqual(least_pace(line_of(*[7, 900] * 6)), 1800)

    def test_least_pace_does_not_depend_on_the_order(self):
        for order in itertools.permutations((9, 7, 5, 2, 1)):
            self.assertEqual(least_pace(line_of(*order)), 12)

    def test_orders_are_compared_by_places_in_the_line(self):
        # By their names or paces, another line with the pace 5 would be first.
        line = Line(("zoe", 3), ("yan", 1), ("ann", 2))
        self.assertEqual(best_order(line).names, ("zoe", "yan", "ann"))
        self.assertEqual(best_order(-line).names, ("ann", "yan", "zoe"))
        self.assertEqual(best_order(Line(("yan", 1), ("zoe", 3), ("ann", 2))).names, ("yan", "ann", "zoe"))

    def test_seven_and_eight_people(self):
        self.assertEqual(best_order(line_of(1, 2, 3, 4, 5, 6, 7)).pace, 10)
        for many in (8, 9, 12):
            self.fails(TooManyPeople(), best_order, line_of(*range(1, many + 1)))
        self.assertEqual([least_pace(line_of(*[2] * 8)), good_line(line_of(*[2] * 8)).pace], [4, 4])


def fewest_of_all(line, pace, goal):
    """Return what point 9 asks for, out of all lists of people."""
    paces = [own for _, own in line.people]
    for size in range(len(paces) + 1):
        for places in itertools.combinations(range(len(paces)), size):
            tried = [pace if place in places else own for place, own in enumerate(paces)]
            if pace_of(tried) <= goal:
                return [line.names[place] for place in places]
    return None


class FewestTrainedTest(Case):
    def test_against_all_lists_of_people(self):
        for paces in some_paces(1, seed=33):
            if len(paces) <= 7:
                line = line_of(*paces)
                for pace in (1, 2, max(paces) // 2 + 1, max(paces) + 3):
                    for goal in range(1, 2 * max(paces) + 2):
                        expected = fewest_of_all(line, pace, goal)
                        self.assertEqual(fewest_trained(line, pace, goal), expected, (paces, pace, goal))

    def test_goal_that_is_reached_already(self):
        for line in (line_of(2, 3), line_of(2, 3, 1), line_of(*[9] * 12)):
            self.assertEqual(fewest_trained(line, 1, line.pace), [])
            self.assertEqual(fewest_trained(line, 1000, line.pace), [])
            self.assertEqual(fewest_trained(line, 1000, 2000), [])
            self.assertNotEqual(fewest_trained(line, 1, line.pace - 1), [])

    def test_goal_that_nobody_reaches(self):
        self.assertIsNone(fewest_trained(line_of(2, 3, 1), 1, 1))
        self.assertIsNone(fewest_trained(line_of(9, 9, 9), 5, 9))
        self.assertIsNone(fewest_trained(line_of(*[1000] * 12), 1000, 1999))
        self.assertEqual(fewest_trained(line_of(9, 9, 9), 5, 10), ["ann", "bob", "cid"])

    def test_people_who_were_faster_before(self):
        # Whoever was faster gets slower, so that the others alone are trained.
        line = line_of(9, 1, 1)
        self.assertEqual(fewest_trained(line, 4, 5), ["ann"])
        self.assertEqual(fewest_trained(line, 8, 9), ["ann"])
        self.assertIsNone(fewest_trained(line, 9, 9))
        self.assertIsNone(fewest_trained(line_of(1, 9, 1), 5, 9))

    def test_shorter_lists_come_first(self):
        self.assertEqual(fewest_trained(line_of(4, 4, 9, 4, 4), 1, 8), ["cid"])
        self.assertEqual(fewest_trained(line_of(8, 1, 1, 1, 1, 9), 1, 2), ["ann", "fay"])

    def test_the_first_list_by_places(self):
        line = Line(("zoe", 5), ("yan", 5), ("ann", 5))
        self.assertEqual(fewest_trained(line, 1, 6), ["zoe", "yan"])
        self.assertEqual(fewest_trained(-line, 1, 6), ["ann", "yan"])

    def test_all_of_twelve_people(self):
        line = line_of(*[1000] * 12)
        self.assertEqual(fewest_trained(line, 1, 2), list(line.names))
        self.assertEqual(fewest_trained(line, 999, 1999), list(line.names[1:-1]))

    def test_ends_of_the_ranges(self):
        line = line_of(2, 3, 1)
        self.assertEqual(fewest_trained(line, 1, 2), ["ann", "bob"])
        self.assertIsNone(fewest_trained(line, 1, 1))
        self.assertEqual(fewest_trained(line_of(1, 3), 1, 1), ["bob"])
        self.assertEqual(fewest_trained(line, 1000, 2000), [])
        self.assertIsNone(fewest_trained(line, 1000, 1))

    def test_wrong_paces(self):
        for pace in (0, 1001, -1, True):
            self.fails(InvalidNumber(), fewest_trained, line_of(2, 3, 1), pace, 2000)

    def test_wrong_goals(self):
        for goal in (0, 2001, -1, True):
            self.fails(InvalidNumber(), fewest_trained, line_of(2, 3, 1), 1, goal)

    def test_the_list_may_be_modified(self):
        line = line_of(2, 3, 1)
        fewest_trained(line, 1, 4).append("ann")
        self.assertEqual(fewest_trained(line, 1, 4), ["bob"])
        self.assertEqual(line, line_of(2, 3, 1))


if __name__ == "__main__":
    unittest.main()
