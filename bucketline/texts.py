"""Texts of lines, and schedules of their buckets."""

from bucketline.checks import check_number
from bucketline.errors import InvalidSchedule, InvalidText
from bucketline.lines import MIN_PEOPLE, Line, is_name

DIGITS = "0123456789"
MAX_DIGITS = 4
MAX_SCHEDULED = 200
FIRST_WORD = "bucket"
FIRST_WIDTH = 6
WIDTH = 10


def has_digits_only(word):
    """Tell whether a word has digits and no other signs."""
    # Not isdigit, which is true for the digits of all alphabets.
    return len(word) > 0 and all([sign in DIGITS for sign in word])


def is_number(word):
    """Tell whether a word is a number as it stands in the text of a line."""
    return has_digits_only(word) and len(word) <= MAX_DIGITS and word == str(int(word))


def wrong_word(words):
    """Return the place of the first wrong word in the row of a person, or None."""
    if not is_name(words[0]):
        return 0
    if len(words) < 2 or not is_number(words[1]):
        return 1
    return 2 if len(words) > 2 else None


def format_line(line):
    """Return the text of a line."""
    return "\n".join([f"{name} {pace}" for name, pace in line.people])


def parse_line(text):
    """Return the line of a text."""
    people = []
    for row, signs in enumerate(text.split("\n")):
        words = signs.split(" ")
        wrong = wrong_word(words)
        if wrong is not None:
            raise InvalidText(row=row, word=wrong)
        people.append((words[0], int(words[1])))
    return Line(*people)


def schedule_row(first, others):
    """Return the row of a schedule with these words in its columns."""
    cells = [word.rjust(WIDTH) for word in others]
    return first.rjust(FIRST_WIDTH) + "".join(cells)


def schedule(line, count):
    """Return the schedule of the first so many buckets."""
    check_number(count, 0, MAX_SCHEDULED)
    rows = [schedule_row(FIRST_WORD, line.names)]
    for bucket in range(count):
        ticks = [line(bucket, name) for name in line.names]
        rows.append(schedule_row(str(bucket), [f"{tick:,}" for tick in ticks]))
    return "\n".join(rows)


def is_tick(word):
    """Tell whether a word is a number as ticks stand in schedules."""
    digits = word.replace(",", "")
    return has_digits_only(digits) and word == f"{int(digits):,}"


def words_behind(first, row):
    """Return the words in the columns behind the first one, or None.

    It is None if the first column does not have this word, or a column is not
    filled up to its width.
    """
    words = [row[start:start + WIDTH].lstrip(" ") for start in range(FIRST_WIDTH, len(row), WIDTH)]
    return words if row == schedule_row(first, words) else None


def schedule_names(row):
    """Return the names in the first row of a schedule, or raise InvalidSchedule."""
    names = words_behind(FIRST_WORD, row)
    if names is None or len(names) < MIN_PEOPLE or not all([is_name(name) for name in names]):
        raise InvalidSchedule(row=0)
    return names


def schedule_ticks(row, number, count):
    """Return so many ticks in a later row of a schedule, or raise InvalidSchedule."""
    words = words_behind(str(number - 1), row)
    if words is None or len(words) != count or not all([is_tick(word) for word in words]):
        raise InvalidSchedule(row=number)
    return [int(word.replace(",", "")) for word in words]


def parse_schedule(text):
    """Return the names and the ticks of a schedule."""
    rows = text.split("\n")
    names = schedule_names(rows[0])
    ticks = []
    for number, row in enumerate(rows[1:], start=1):
        ticks.append(schedule_ticks(row, number, len(names)))
    return names, ticks
