"""Lines as bytes, which are lists of integers from 0 to 255."""

from bucketline.checks import in_range
from bucketline.errors import DecodeError
from bucketline.lines import LETTERS, MAX_LETTERS, MIN_PEOPLE, Line

FIRST_BYTE = 66
SIZE = 256
CHECK_START = 7
CHECK_FACTOR = 5
CHECK_SIZE = 241


def checksum_of(data):
    """Return the checksum that stands after these bytes."""
    rest = CHECK_START
    for byte in data:
        rest = (CHECK_FACTOR * rest + byte) % CHECK_SIZE
    return rest


def encode_line(line):
    """Return the bytes of a line."""
    data = [FIRST_BYTE, len(line)]
    for name, pace in line.people:
        letters = [LETTERS.find(letter) for letter in name]
        data.extend([len(name), *letters, pace // SIZE, pace % SIZE])
    data.append(checksum_of(data))
    return data


class ByteReader:
    """A list of bytes that is read from its beginning on."""

    def __init__(self, data):
        self._data = data
        self.at = 0

    def take(self, low, high):
        """Return the next byte, or raise DecodeError unless it is from low to high."""
        # Behind the last byte, the place is the length of the list.
        if self.at == len(self._data) or not in_range(self._data[self.at], low, high):
            raise DecodeError(offset=self.at)
        self.at += 1
        return self._data[self.at - 1]


def take_name(reader, others):
    """Return the next name, which is none of the others."""
    start = reader.at
    length = reader.take(1, MAX_LETTERS)
    letters = [LETTERS[reader.take(0, len(LETTERS) - 1)] for _ in range(length)]
    name = "".join(letters)
    if name in others:
        raise DecodeError(offset=start)
    return name


def take_pace(reader):
    """Return the next pace."""
    high = SIZE * reader.take(0, Line.MAX_PACE // SIZE)
    low = reader.take(max(0, 1 - high), min(SIZE - 1, Line.MAX_PACE - high))
    return high + low


def decode_line(data):
    """Return the line of a list of bytes."""
    reader = ByteReader(data)
    reader.take(FIRST_BYTE, FIRST_BYTE)
    count = reader.take(MIN_PEOPLE, Line.MAX_PEOPLE)
    names = []
    people = []
    for _ in range(count):
        name = take_name(reader, names)
        names.append(name)
        people.append((name, take_pace(reader)))
    checksum = checksum_of(data[:reader.at])
    reader.take(checksum, checksum)
    if reader.at < len(data):
        raise DecodeError(offset=reader.at)
    return Line(*people)
