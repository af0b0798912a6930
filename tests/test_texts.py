"""Point 15: texts of lines, and schedules."""

import random
import unittest

from bucketline.errors import InvalidLine, InvalidNumber, InvalidSchedule, InvalidText
from bucketline.lines import Line
from bucketline.texts import format_line, parse_line, parse_schedule, schedule
from tests.cases import NAMES, Case, line_of, some_paces

NO_NAMES = ("", "abcdefghi", "Ann", "aNn", "ann1", "a_b", "ann\t", "\tann", "a-b", "7", "\u00e4nn", "\u0430", "ann\r")
NO_NUMBERS = ("", "x", "-1", "+1", "1.0", "1,0", "01", "00", "0001", "00000", "10000", "12345678901234567890", "1x",
              "1_0", "1\t", "\t1", "1\r", "0x1", "\u0663", "\u00b2", "\uff11", "True")


class FormatLineTest(Case):
    def test_rows(self):
        self.assertEqual(format_line(line_of(2, 30, 1000)), "ann 2\nbob 30\ncid 1000")
        self.assertEqual(format_line(Line(("z", 1), ("abcdefgh", 999))), "z 1\nabcdefgh 999")

    def test_texts_of_lines_go_round(self):
        for paces in some_paces(3, seed=81):
            line = line_of(*[pace * 33 for pace in paces])
            self.assertEqual(parse_line(format_line(line)), line)
            self.assertEqual(parse_line(format_line(-line)), -line)
        for pace in range(1, 1001):
            line = Line(("abcdefgh", pace), ("z", 1001 - pace))
            self.assertEqual(parse_line(format_line(line)).people, line.people)


class ParseLineTest(Case):
    def wrong(self, text, row, word):
        self.fails(InvalidText(row=row, word=word), parse_line, text)

    def test_rows(self):
        line = parse_line("zoe 2\nbob 1000\na 1")
        self.assertIs(type(line), Line)
        self.assertEqual(line.people, (("zoe", 2), ("bob", 1000), ("a", 1)))
        self.assertEqual([type(pace) for _, pace in line.people], [int] * 3)

    def test_twelve_people(self):
        line = line_of(*range(100, 1300, 100)[:10], 7, 8)
        self.assertEqual(parse_line(format_line(line)).people, line.people)

    def test_wrong_names(self):
        for name in NO_NAMES:
            self.wrong(f"{name} 5\nbob 5", 0, 0)
            self.wrong(f"ann 5\nbob 5\n{name} 5", 2, 0)
            self.wrong(f"ann 5\n{name}", 1, 0)
            self.wrong(f"ann 5\n{name} x y", 1, 0)

    def test_wrong_numbers(self):
        for number in NO_NUMBERS:
            self.wrong(f"ann {number}\nbob 5", 0, 1)
            self.wrong(f"ann 5\nbob 5\ncid {number}", 2, 1)
            self.wrong(f"ann 5\nbob {number} 5", 1, 1)

    def test_missing_numbers(self):
        self.wrong("ann\nbob 5", 0, 1)
        self.wrong("ann 5\nbob", 1, 1)
        self.wrong("ann", 0, 1)

    def test_third_words(self):
        for rest in ("x", "7", "x y z", "", " "):
            self.wrong(f"ann 5 {rest}\nbob 5", 0, 2)
            self.wrong(f"ann 5\nbob 5 {rest}", 1, 2)

    def test_empty_words(self):
        self.wrong("ann  5\nbob 5", 0, 1)
        self.wrong("ann 5\nbob  5", 1, 1)
        self.wrong(" ann 5\nbob 5", 0, 0)
        self.wrong("ann 5\n bob 5", 1, 0)
        self.wrong("ann 5 \nbob 5", 0, 2)
        self.wrong("ann 5\nbob 5 ", 1, 2)
        self.wrong("ann 5\nbob ", 1, 1)
        self.wrong("ann 5  7\nbob 5", 0, 2)

    def test_empty_rows(self):
        self.wrong("", 0, 0)
        self.wrong("\n", 0, 0)
        self.wrong("ann 5\nbob 5\n", 2, 0)
        self.wrong("\nann 5\nbob 5", 0, 0)
        self.wrong("ann 5\n\nbob 5", 1, 0)
        self.wrong(" ", 0, 0)
        self.wrong("ann 5\n ", 1, 0)

    def test_only_line_feeds_join_rows(self):
        self.wrong("ann 5\r\nbob 5", 0, 1)
        self.wrong("ann 5\rbob 5", 0, 1)
        self.wrong("ann 5\x0bbob 5", 0, 1)
        self.wrong("ann 5\u2028bob 5", 0, 1)
        self.wrong("ann\t5\nbob 5", 0, 0)
        self.wrong("ann\u00a05\nbob 5", 0, 0)

    def test_the_first_wrong_row_and_word_count(self):
        self.wrong("ann 5\nBob x y\n", 1, 0)
        self.wrong("ann 5\nbob x y\n", 1, 1)
        self.wrong("ann 5\nbob 5 y\n", 1, 2)
        self.wrong("ann 5 x\nBob 5", 0, 2)

    def test_invalid_lines(self):
        self.fails(InvalidLine(index=1), parse_line, "ann 5")
        self.fails(InvalidLine(index=0), parse_line, "ann 0\nbob 5")
        self.fails(InvalidLine(index=1), parse_line, "ann 5\nbob 1001")
        self.fails(InvalidLine(index=1), parse_line, "ann 5\nbob 9999")
        self.fails(InvalidLine(index=2), parse_line, "ann 5\nbob 5\nann 7")
        self.fails(InvalidLine(index=12), parse_line, "\n".join(f"{name} 5" for name in NAMES))

    def test_invalid_texts_come_before_invalid_lines(self):
        self.wrong("ann 0\nbob x", 1, 1)
        self.wrong("ann 5\nann 5\ncid", 2, 1)
        self.wrong("ann 5 5", 0, 2)
        self.wrong("\n".join(f"{name} 5" for name in NAMES) + "\n", 13, 0)


class ScheduleTest(Case):
    def test_columns(self):
        line = Line(("a", 2), ("abcdefgh", 3), ("cid", 1))
        self.assertEqual(schedule(line, 3), "\n".join([
            "bucket         a  abcdefgh       cid",
            "     0         0         3         6",
            "     1         3         9        12",
            "     2         9        15        18",
        ]))

    def test_no_buckets(self):
        self.assertEqual(schedule(line_of(2, 3), 0), "bucket       ann       bob")

    def test_commas(self):
        rows = schedule(line_of(999, 1000, 1), 2).split("\n")
        self.assertEqual(rows[1:], ["     0         0     1,000     2,000",
                                    "     1     1,000     3,000     4,000"])
        rows = schedule(line_of(*[999] * 2), 2).split("\n")
        self.assertEqual(rows[1:], ["     0         0       999", "     1       999     1,998"])

    def test_as_many_buckets_as_allowed(self):
        rows = schedule(line_of(*[1000] * 12), 200).split("\n")
        self.assertEqual(len(rows), 201)
        self.assertEqual(rows[200][:16], "   199   397,000")
        self.assertEqual(rows[200][-10:], "   409,000")
        self.assertEqual({len(row) for row in rows}, {126})

    def test_ticks_are_those_of_the_line(self):
        for paces in some_paces(1, seed=82):
            line = line_of(*paces)
            rows = schedule(line, 9).split("\n")
            self.assertEqual(rows[0].split(), ["bucket", *line.names])
            for bucket, row in enumerate(rows[1:]):
                ticks = [line(bucket, name) for name in line.names]
                self.assertEqual(row.replace(",", "").split(), [str(number) for number in [bucket, *ticks]])

    def test_wrong_counts(self):
        for count in (-1, 201, 10 ** 18, True, False, "5", None):
            self.fails(InvalidNumber(), schedule, line_of(2, 3), count)


class ParseScheduleTest(Case):
    def setUp(self):
        self.rows = schedule(line_of(2, 300, 1), 4).split("\n")

    def wrong(self, rows, row):
        self.fails(InvalidSchedule(row=row), parse_schedule, "\n".join(rows))

    def with_row(self, row, signs):
        """Return the rows of a schedule in which one is another one."""
        return [*self.rows[:row], signs, *self.rows[row + 1:]]

    def test_schedules_go_round(self):
        for paces in some_paces(1, seed=83):
            line = line_of(*[pace * 33 for pace in paces])
            for count in (0, 1, 12):
                ticks = [[line(bucket, name) for name in line.names] for bucket in range(count)]
                self.assertEqual(parse_schedule(schedule(line, count)), (list(line.names), ticks))

    def test_the_greatest_schedule(self):
        line = line_of(*[1000] * 12)
        names, ticks = parse_schedule(schedule(line, 200))
        self.assertEqual([names, len(ticks), ticks[199][-1]], [list(line.names), 200, 409000])

    def test_kinds_of_values(self):
        found = parse_schedule("\n".join(self.rows))
        self.assertIs(type(found), tuple)
        self.assertEqual([type(part) for part in found], [list, list])
        self.assertEqual({type(row) for row in found[1]}, {list})
        self.assertEqual({type(tick) for row in found[1] for tick in row}, {int})

    def test_no_buckets(self):
        self.assertEqual(parse_schedule("bucket       ann       bob"), (["ann", "bob"], []))

    def test_any_ticks(self):
        text = "\n".join(["bucket       ann       bob", "     0       999         0", "     1 1,000,000     1,000",
                          "     299,999,99910,000,000"])
        self.assertEqual(parse_schedule(text), (["ann", "bob"], [[999, 0], [1000000, 1000], [99999999, 10000000]]))

    def test_repeated_names(self):
        self.assertEqual(parse_schedule("bucket       ann       ann\n     0         7         7"),
                         (["ann", "ann"], [[7, 7]]))

    def test_more_than_twelve_names(self):
        names = ["ann", "abcdefgh", "z"] * 7
        header = "bucket" + "".join(f"{name:>10}" for name in names)
        row = "     0" + "".join(f"{tick:>10,}" for tick in range(990, 1011))
        self.assertEqual(parse_schedule(f"{header}\n{row}"), (names, [list(range(990, 1011))]))

    def test_more_rows_than_a_schedule_has(self):
        rows = ["bucket       ann       bob"] + [f"{bucket:>6}         0         1" for bucket in range(1234)]
        self.assertEqual(parse_schedule("\n".join(rows)), (["ann", "bob"], [[0, 1]] * 1234))

    def test_fewer_than_two_names(self):
        self.wrong(["bucket"], 0)
        self.wrong(["bucket       ann"], 0)
        self.wrong(["bucket       ann", "     0         5"], 0)
        self.wrong(["bucket", "     0"], 0)

    def test_empty_texts(self):
        self.wrong([""], 0)
        self.wrong(["", ""], 0)
        self.wrong([" "], 0)

    def test_wrong_first_rows(self):
        for signs in ("Bucket       ann       bob", "buckets      ann       bob", "bucke        ann       bob",
                      "  bucket       ann       bob", "bucket ann bob", "bucket      ann       bob",
                      "bucket        ann       bob", "bucket       ann      bob", "bucket       ann       bob ",
                      "bucket       ann        bob", "bucket       ann       bob          ",
                      "bucket       ann          ",
                      "bucket    ann          bob", "bucket       a b       bob", "bucket       ann       Bob",
                      "bucket       ann abcdefghi", "bucket       ann         7", "bucket       ann\t      bob",
                      "bucket\t      ann       bob", "      ann       bob", "bucket       ann\u00a0      bob",
                      "bucket       ann       bob\r", "bucket     \u0430nn       bob",
                      "bucket       ann       bob       "):
            self.wrong([signs], 0)
            self.wrong([signs, "     0         0       300"], 0)

    def test_wrong_ticks(self):
        for tick in ("", "x", "-1", "+1", "01", "00", "007", "1.0", "1000", "1,00", "1,0000", "1,00,000", ",100",
                     "100,", "1,,000", "0,100", ",", "10000,000", "1_000", "1 000", "\u0663", "1,00\u0663", "0x1",
                     "ann", "7 ", "7\t", "\t7"):
            cell = f"{tick:>10}"
            self.wrong(self.with_row(2, "     1" + cell + "         5         5"), 2)
            self.wrong(self.with_row(2, "     1         5         5" + cell), 2)

    def test_wrong_widths(self):
        for signs in ("     1        5         5         5", "     1         5         5        5",
                      "     1          5         5         5", "     1         5         5         5 ",
                      "     1         5         5          5", "    1         5         5         5",
                      "      1         5         5         5", "     1 5 5 5", "     15         5         5         ",
                      "     1         5         5100,000,000"):
            self.wrong(self.with_row(2, signs), 2)

    def test_wrong_numbers_of_ticks(self):
        for row in range(1, 5):
            self.wrong(self.with_row(row, self.rows[row] + "         5"), row)
            self.wrong(self.with_row(row, self.rows[row][:-10]), row)
            self.wrong(self.with_row(row, self.rows[row][:6]), row)

    def test_wrong_numbers_of_buckets(self):
        rest = "         5         5         5"
        for number in ("     0", "     2", "    01", "     x", "    -1", "    +1", "1     ", "      ", "     \u0661",
                       "bucket"):
            self.wrong(self.with_row(2, number + rest), 2)
        self.wrong(self.with_row(1, "     1" + rest), 1)
        self.wrong([self.rows[0], *self.rows[2:]], 1)
        self.wrong([*self.rows[:3], *self.rows[2:]], 3)
        self.wrong(self.rows[1:], 0)

    def test_numbers_of_buckets_have_no_commas(self):
        rows = ["bucket       ann       bob"] + [f"{bucket:>6}         0         1" for bucket in range(1000)]
        self.wrong([*rows, " 1,000         0         1"], 1001)

    def test_empty_rows(self):
        self.wrong([*self.rows, ""], 5)
        self.wrong(self.with_row(2, ""), 2)
        self.wrong(["", *self.rows], 0)

    def test_the_first_wrong_row_counts(self):
        rows = self.with_row(3, "x")
        rows[2] = "y"
        self.wrong(rows, 2)
        rows[0] = "bucket"
        self.wrong(rows, 0)

    def test_only_line_feeds_join_rows(self):
        self.fails(InvalidSchedule(row=0), parse_schedule, "\r\n".join(self.rows))
        self.fails(InvalidSchedule(row=0), parse_schedule, "\r".join(self.rows))
        self.fails(InvalidSchedule(row=4), parse_schedule, "\n".join(self.rows) + "\r")

    def test_each_changed_sign(self):
        text = "\n".join(self.rows)
        good = {schedule_text(*found) for found in [parse_schedule(text)]}
        self.assertEqual(good, {text})
        rows = random.Random(84)
        for place in range(len(text)):
            for sign in rows.sample(" ,0123456789abz\nX-", 6):
                changed = text[:place] + sign + text[place + 1:]
                try:
                    found = parse_schedule(changed)
                except InvalidSchedule as error:
                    self.assertLessEqual(error.row, changed[:place + 1].count("\n") + 1)
                else:
                    self.assertEqual(schedule_text(*found), changed)


def schedule_text(names, ticks):
    """Return the text of a schedule with these names and ticks."""
    rows = ["bucket" + "".join(f"{name:>10}" for name in names)]
    rows += [f"{bucket:>6}" + "".join(f"{tick:>10,}" for tick in row) for bucket, row in enumerate(ticks)]
    return "\n".join(rows)


if __name__ == "__main__":
    unittest.main()
