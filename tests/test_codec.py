"""Point 16: lines as bytes."""

import random
import unittest

from bucketline.codec import decode_line, encode_line
from bucketline.errors import DecodeError
from bucketline.lines import Line
from tests.cases import Case, line_of, some_paces

NO_BYTES = (-1, 256, 1000, 10 ** 20, -10 ** 20, True, False, None, "a", "")
# The people of `line_of(2, 300)`, whose places are: 2 and 8 the lengths of the
# names, 3 to 5 and 9 to 11 their letters, 6, 7, 12 and 13 the paces; 14 the checksum.
BYTES = [66, 2, 3, 0, 13, 13, 0, 2, 3, 1, 14, 1, 1, 44]


def checked(data):
    """Return bytes with the checksum behind them."""
    rest = 7
    for byte in data:
        rest = (rest * 5 + byte) % 241
    return [*data, rest]


def with_byte(place, byte):
    """Return the bytes of a line with another one at a place, and the checksum for it."""
    data = [*BYTES[:place], byte, *BYTES[place + 1:]]
    return checked(data) if isinstance(byte, int) else [*data, 0]


class EncodeTest(Case):
    def test_people(self):
        self.assertEqual(encode_line(line_of(2, 300)), checked(BYTES))
        self.assertEqual(encode_line(Line(("abcdefgh", 1000), ("z", 1), ("yx", 255), ("w", 256))),
                         checked([66, 4, 8, *range(8), 3, 232, 1, 25, 0, 1, 2, 24, 23, 0, 255, 1, 22, 1, 0]))

    def test_the_checksum(self):
        # By hand: 7, 101, 25, 126, 148, 17, 86, 190, 228, 176, 158.
        self.assertEqual(encode_line(Line(("a", 1), ("b", 1))), [66, 2, 1, 0, 0, 1, 1, 1, 0, 1, 158])
        checksums = {encode_line(Line(("a", pace), ("b", 1)))[-1] for pace in range(1, 1001)}
        self.assertEqual(checksums, set(range(241)))

    def test_kinds_of_values(self):
        data = encode_line(line_of(2, 300))
        self.assertIs(type(data), list)
        self.assertEqual({type(byte) for byte in data}, {int})

    def test_all_are_bytes(self):
        for paces in some_paces(2, seed=91):
            data = encode_line(line_of(*[pace * 33 for pace in paces]))
            self.assertTrue(all(0 <= byte <= 255 for byte in data))
            self.assertEqual(data, checked(data[:-1]))

    def test_each_result_is_new(self):
        line = line_of(2, 300)
        encode_line(line).clear()
        self.assertEqual(encode_line(line), checked(BYTES))


class RoundTest(Case):
    def test_bytes_of_lines_go_round(self):
        for paces in some_paces(3, seed=92):
            for line in (line_of(*paces), -line_of(*[pace * 33 for pace in paces])):
                self.assertEqual(decode_line(encode_line(line)), line)
                self.assertEqual(decode_line(encode_line(line)).people, line.people)

    def test_all_paces(self):
        for pace in range(1, 1001):
            line = Line(("abcdefgh", pace), ("z", 1001 - pace))
            self.assertEqual(decode_line(encode_line(line)), line)

    def test_names_of_all_letters_and_lengths(self):
        for letter in "abcdefghijklmnopqrstuvwxyz":
            line = Line(*[(letter * length, length) for length in range(1, 9)])
            self.assertEqual(decode_line(encode_line(line)), line)

    def test_the_list_is_not_modified(self):
        data = checked(BYTES)
        line = decode_line(data)
        self.assertEqual(data, checked(BYTES))
        data.clear()
        self.assertEqual(line, line_of(2, 300))


class DecodeTest(Case):
    def wrong(self, data, offset):
        self.fails(DecodeError(offset=offset), decode_line, data)

    def wrong_at(self, place, numbers):
        for number in (*numbers, *NO_BYTES):
            self.wrong(with_byte(place, number), place)

    def right_at(self, place, numbers):
        for number in numbers:
            self.assertEqual(encode_line(decode_line(with_byte(place, number))), with_byte(place, number))

    def test_the_first_byte(self):
        self.wrong_at(0, [0, 65, 67, 255])

    def test_the_number_of_people(self):
        self.wrong_at(1, [0, 1, 13, 255])
        self.wrong([66, 3, *BYTES[2:]], 14)
        people = [byte for letter in range(12) for byte in (1, letter, 0, 1)]
        self.assertEqual(len(decode_line(checked([66, 12, *people]))), 12)
        self.wrong(checked([66, 13, *people, 1, 12, 0, 1]), 1)
        self.wrong(checked([66, 1, *people[:4]]), 1)

    def test_lengths_of_names(self):
        for place in (2, 8):
            self.wrong_at(place, [0, 9, 255])

    def test_letters(self):
        for place in (3, 4, 5, 9, 10, 11):
            self.wrong_at(place, [26, 97, 255])
            self.right_at(place, [0, 25])

    def test_paces(self):
        for place in (6, 12):
            self.wrong_at(place, [4, 5, 255])
            self.right_at(place, [0, 1, 2, 3])
        for place in (7, 13):
            self.wrong_at(place, [])

    def test_least_pace(self):
        self.wrong(with_byte(7, 0), 7)
        self.right_at(7, [1, 255])
        data = [*BYTES[:12], 0]
        self.wrong(checked([*data, 0]), 13)
        self.assertEqual(decode_line(checked([*data, 1]))["bob"], 1)
        self.assertEqual(decode_line(with_byte(13, 0))["bob"], 256)

    def test_greatest_pace(self):
        for place, name in ((6, "ann"), (12, "bob")):
            for rest in (0, 231, 232):
                data = [*BYTES[:place], 3, rest, *BYTES[place + 2:]]
                self.assertEqual(decode_line(checked(data))[name], 768 + rest)
            for rest in (233, 255):
                self.wrong(checked([*BYTES[:place], 3, rest, *BYTES[place + 2:]]), place + 1)
            for high in (1, 2):
                data = [*BYTES[:place], high, 255, *BYTES[place + 2:]]
                self.assertEqual(decode_line(checked(data))[name], high * 256 + 255)

    def test_repeated_names(self):
        ann, bob = BYTES[2:8], BYTES[8:]
        self.wrong(checked([66, 2, *ann, *ann]), 8)
        self.wrong(checked([66, 3, *ann, *bob, *ann]), 14)
        self.wrong(checked([66, 3, *ann, *bob, *bob]), 14)
        self.wrong(checked([66, 4, *ann, *bob, *bob, *ann]), 14)
        # Names of which one begins with the other one.
        data = checked([66, 3, 1, 0, 0, 1, 2, 0, 0, 0, 1, 3, 0, 0, 0, 0, 1])
        self.assertEqual(decode_line(data).names, ("a", "aa", "aaa"))

    def test_repeated_names_and_what_is_wrong_behind_them(self):
        ann = BYTES[2:8]
        self.wrong([66, 2, *ann, *ann[:4]], 8)
        self.wrong([66, 2, *ann, *ann[:4], 9, 9], 8)
        self.wrong([66, 2, *ann, *ann[:3]], 11)
        self.wrong([66, 2, *ann, *ann[:3], 99], 11)

    def test_wrong_checksums(self):
        right = checked(BYTES)[-1]
        for number in range(256):
            if number != right:
                self.wrong([*BYTES, number], 14)
        for number in (*NO_BYTES, right + 241):
            self.wrong([*BYTES, number], 14)

    def test_a_boolean_is_no_checksum(self):
        data = next(data for data in (checked([66, 2, 1, 0, 0, pace, 1, 1, 0, 1]) for pace in range(1, 256))
                    if data[-1] == 1)
        self.assertEqual(len(decode_line(data)), 2)
        self.wrong([*data[:-1], True], 10)

    def test_what_follows_the_checksum(self):
        for rest in ([0], [66], [300], [True], [0, 0, 0], checked(BYTES)):
            self.wrong([*checked(BYTES), *rest], 15)
            self.wrong([*BYTES, 241, *rest], 14)

    def test_missing_bytes(self):
        for length in range(15):
            self.wrong(checked(BYTES)[:length], length)
        line = line_of(*range(1, 13))
        data = encode_line(line)
        for length in range(len(data)):
            self.wrong(data[:length], length)

    def test_the_first_wrong_byte_counts(self):
        self.wrong([0, 0], 0)
        self.wrong([66, 2, 9], 2)
        self.wrong([66, 2, 3, 26], 3)
        self.wrong([66, 2, 1, 0, 0, 0], 5)
        self.wrong([66, 2, 1, 0, 3, 233], 5)
        self.wrong([66, 2, 1, 0, 4, 0, 26], 4)

    def test_each_changed_byte(self):
        rows = random.Random(93)
        for paces in some_paces(1, seed=94)[::4]:
            data = encode_line(line_of(*[pace * 33 for pace in paces]))
            for place, byte in enumerate(data):
                number = rows.choice([other for other in range(256) if other != byte])
                changed = [*data[:place], number, *data[place + 1:]]
                with self.assertRaises(DecodeError) as caught:
                    decode_line(changed)
                self.assertLessEqual(caught.exception.offset, len(data))


if __name__ == "__main__":
    unittest.main()
