"""Points 2 and 3: lines, their people, and their signs."""

import unittest

from bucketline.errors import InvalidLine, UnknownPerson
from bucketline.lines import Line
from tests.cases import NAMES, Case, line_of


class PeopleTest(Case):
    def test_people_and_names_are_tuples_in_order(self):
        line = Line(("bob", 3), ("ann", 2))
        self.assertEqual(line.people, (("bob", 3), ("ann", 2)))
        self.assertEqual(line.names, ("bob", "ann"))

    def test_two_and_twelve_people(self):
        self.assertEqual(len(line_of(1, 2)), 2)
        self.assertEqual(line_of(*range(1, 13)).names, NAMES[:12])

    def test_fewer_than_two_people(self):
        self.fails(InvalidLine(index=0), Line)
        self.fails(InvalidLine(index=1), Line, ("ann", 1))

    def test_the_thirteenth_person(self):
        self.fails(InvalidLine(index=12), line_of, *[1] * 13)
        self.fails(InvalidLine(index=12), Line, *[(name, 1) for name in "abcdefghijklmno"])

    def test_names_of_one_and_eight_letters(self):
        people = (("a", 1), ("z", 1), ("abcdefgh", 1), ("stuvwxyz", 1))
        self.assertEqual(Line(*people).people, people)

    def test_wrong_names(self):
        for name in ("", "abcdefghi", "Ann", "aNn", "ann1", "a b", "a_b", "ann\n", " ", "\u00e4nn", "\u0430"):
            self.fails(InvalidLine(index=1), Line, ("bob", 1), (name, 1), ("cid", 1))

    def test_values_of_another_kind(self):
        self.fails(InvalidLine(index=0), Line, (7, 1), ("bob", 1))
        self.fails(InvalidLine(index=1), Line, ("ann", 1), ("bob", "1"))

    def test_least_and_greatest_pace(self):
        self.assertEqual(Line(("ann", 1), ("bob", 1000)).people, (("ann", 1), ("bob", 1000)))

    def test_wrong_paces(self):
        for pace in (0, -1, 1001, 10 ** 20, True, False):
            self.fails(InvalidLine(index=0), Line, ("ann", pace), ("bob", 1))

    def test_repeated_names(self):
        self.fails(InvalidLine(index=1), Line, ("ann", 1), ("ann", 1))
        self.fails(InvalidLine(index=3), Line, ("ann", 1), ("bob", 1), ("cid", 1), ("ann", 2), ("bob", 2))

    def test_the_first_wrong_person_counts(self):
        self.fails(InvalidLine(index=0), Line, ("", 1))
        self.fails(InvalidLine(index=1), Line, ("ann", 1), ("bob", 0), ("ann", 1))
        self.fails(InvalidLine(index=1), Line, ("ann", 1), ("ann", 1), ("bob", 0))
        self.fails(InvalidLine(index=2), line_of, *[1, 1, 0], *[1] * 10)
        self.fails(InvalidLine(index=12), line_of, *[1] * 12, 0)

    def test_class_values(self):
        self.assertEqual([Line.MAX_PEOPLE, Line.MAX_PACE], [12, 1000])
        self.assertEqual([line_of(1, 2).MAX_PEOPLE, line_of(1, 2).MAX_PACE], [12, 1000])


class NamedTest(Case):
    def test_people_by_keyword_in_their_order(self):
        line = Line.named(zoe=4, ann=2, bob=3)
        self.assertEqual(line.people, (("zoe", 4), ("ann", 2), ("bob", 3)))

    def test_any_name_can_be_a_keyword(self):
        people = {"cls": 1, "self": 2, "people": 3, "paces": 4, "name": 5}
        self.assertEqual(Line.named(**people).people, tuple(people.items()))

    def test_is_called_off_an_object_too(self):
        self.assertEqual(line_of(7, 8).named(ann=1, bob=2), line_of(1, 2))

    def test_wrong_people(self):
        self.fails(InvalidLine(index=0), Line.named)
        self.fails(InvalidLine(index=1), Line.named, ann=1)
        self.fails(InvalidLine(index=1), Line.named, ann=1, Bob=1)
        self.fails(InvalidLine(index=2), Line.named, ann=1, bob=1, cid=1001)


class SignsTest(Case):
    def setUp(self):
        self.line = line_of(2, 3, 1)

    def test_length(self):
        self.assertEqual([len(line_of(1, 1)), len(self.line), len(line_of(*[1] * 12))], [2, 3, 12])

    def test_contains_names(self):
        self.assertTrue("ann" in self.line and "cid" in self.line)
        self.assertFalse("dan" in self.line or "an" in self.line or "" in self.line)
        self.assertFalse(2 in self.line or ("ann", 2) in self.line)

    def test_pace_of_somebody(self):
        self.assertEqual([self.line[name] for name in ("cid", "ann", "bob")], [1, 2, 3])

    def test_pace_of_nobody(self):
        self.fails(UnknownPerson(name="dan"), lambda: self.line["dan"])

    def test_line_without_somebody(self):
        self.assertEqual((self.line - "ann").people, (("bob", 3), ("cid", 1)))
        self.assertEqual((self.line - "bob").people, (("ann", 2), ("cid", 1)))
        self.assertEqual((self.line - "cid").people, (("ann", 2), ("bob", 3)))

    def test_line_without_nobody(self):
        self.fails(UnknownPerson(name="dan"), lambda: self.line - "dan")

    def test_too_few_people_remain(self):
        self.fails(InvalidLine(index=1), lambda: line_of(2, 3) - "ann")
        self.fails(UnknownPerson(name="cid"), lambda: line_of(2, 3) - "cid")

    def test_people_of_both_lines(self):
        other = Line(("eve", 5), ("dan", 4))
        self.assertEqual((self.line + other).names, ("ann", "bob", "cid", "eve", "dan"))
        self.assertEqual((other + self.line).names, ("eve", "dan", "ann", "bob", "cid"))
        self.assertEqual((other + self.line)["bob"], 3)

    def test_wrong_people_of_both_lines(self):
        other = Line(("eve", 5), ("bob", 3), ("ann", 2))
        self.fails(InvalidLine(index=4), lambda: self.line + other)
        self.fails(InvalidLine(index=3), lambda: other + self.line)

    def test_twelve_and_thirteen_people_of_both_lines(self):
        ten = line_of(*[1] * 10)
        self.assertEqual(len(ten + Line(("x", 1), ("y", 1))), 12)
        self.fails(InvalidLine(index=12), lambda: ten + Line(("x", 1), ("y", 1), ("z", 1)))
        self.fails(InvalidLine(index=12), lambda: ten + Line(("x", 1), ("y", 1), ("ann", 1)))
        self.fails(InvalidLine(index=11), lambda: ten + Line(("x", 1), ("ann", 1), ("z", 1)))

    def test_only_lines_are_added(self):
        with self.assertRaises(TypeError):
            self.line + (("dan", 1),)

    def test_other_way_round(self):
        self.assertEqual((-self.line).people, (("cid", 1), ("bob", 3), ("ann", 2)))
        self.assertEqual(-(-self.line), self.line)

    def test_equal_lines(self):
        self.assertTrue(self.line == line_of(2, 3, 1))
        self.assertFalse(self.line != line_of(2, 3, 1))

    def test_different_lines(self):
        for other in (-self.line, line_of(2, 3, 2), self.line - "cid", Line(("ann", 2), ("bob", 3), ("dan", 1))):
            self.assertTrue(self.line != other)
            self.assertFalse(self.line == other)

    def test_equal_to_nothing_else(self):
        class Anything:
            def __eq__(self, other):
                return True

        for other in (None, 0, "ann", self.line.people, self.line.names, list(self.line.people), Anything()):
            self.assertFalse(self.line == other)
            self.assertTrue(self.line != other)

    def test_no_iteration(self):
        def unpack():
            ann, bob, cid = self.line

        for call in (lambda: iter(self.line), lambda: list(self.line), lambda: [*self.line], unpack,
                     lambda: [name for name in self.line], lambda: sorted(self.line)):
            with self.assertRaises(TypeError):
                call()

    def test_lines_never_change(self):
        line = self.line
        grown = line
        grown += line_of(1, 1, 1, 4, 5) - "ann" - "bob" - "cid"
        less = line
        less -= "ann"
        for _ in (-line, line.trained(9, "ann"), line - "bob", line(7, "cid"), list(line.arrivals(0, 9))):
            self.assertEqual(line.people, (("ann", 2), ("bob", 3), ("cid", 1)))
        self.assertEqual([len(grown), len(less), len(line)], [5, 2, 3])

    def test_properties_cannot_be_assigned(self):
        for name in ("people", "names", "durations", "pace"):
            with self.assertRaises(AttributeError):
                setattr(self.line, name, ())


class TrainedTest(Case):
    def setUp(self):
        self.line = line_of(2, 3, 1, 4)

    def test_one_person(self):
        self.assertEqual(self.line.trained(9, "bob"), line_of(2, 9, 1, 4))

    def test_several_people_in_any_order(self):
        self.assertEqual(self.line.trained(1, "dan", "ann"), line_of(1, 3, 1, 1))
        self.assertEqual(self.line.trained(5, "bob", "bob"), line_of(2, 5, 1, 4))
        self.assertEqual(self.line.trained(1000, *self.line.names), line_of(*[1000] * 4))

    def test_without_names(self):
        self.assertEqual(self.line.trained(9), self.line)
        self.assertEqual(self.line.trained(0), self.line)

    def test_unknown_people(self):
        self.fails(UnknownPerson(name="eve"), self.line.trained, 9, "eve")
        self.fails(UnknownPerson(name="fay"), self.line.trained, 9, "ann", "fay", "eve")
        self.fails(UnknownPerson(name="eve"), self.line.trained, 0, "ann", "eve")

    def test_wrong_paces(self):
        for pace in (0, 1001, -5, True):
            self.fails(InvalidLine(index=2), self.line.trained, pace, "cid")
            self.fails(InvalidLine(index=1), self.line.trained, pace, "dan", "bob")


if __name__ == "__main__":
    unittest.main()
