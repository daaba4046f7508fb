"""The three lines of a dictionary's text, each by itself."""

from wordhouse.entries import (
    KINDS, LAST_NUMBER, LONGEST_HEAD, LONGEST_SENSE, MOST_SENSES, Entry, Pointer, Sense
)
from wordhouse.signs import ARROW, BLANK, DASH, DOT, EQUALS, HASH, signs_of, split_row


def read_line(line):
    """The entry, sense or pointer that a line (without its end) tells, or None if it isn't as told."""
    mark = line[:2]
    if mark == [EQUALS, BLANK]:
        return read_entry(line[2:])
    if mark == [DASH, BLANK]:
        return read_sense(line[2:])
    if mark == [ARROW, BLANK]:
        return read_pointer(line[2:])
    return None


def read_entry(row):
    """An entry's line is an aim without a sense's number."""
    aim = read_aim(row)
    if aim is None or aim[2] != 0:
        return None
    return Entry(aim[0], aim[1])


def read_sense(row):
    """The sense with this text, or None."""
    if len(row) < 1 or len(row) > LONGEST_SENSE:
        return None
    return Sense(row)


def read_pointer(row):
    """The pointer that a kind and an aim tell, or None."""
    for kind, name in enumerate(KINDS):
        start = signs_of(name) + [BLANK]
        if row[:len(start)] == start:
            aim = read_aim(row[len(start):])
            if aim is None:
                return None
            return Pointer(kind, aim[0], aim[1], aim[2])
    return None


def read_aim(row):
    """A head, a number and a sense's number (0: none), or None."""
    end = head_end(row)
    if not is_head(row[:end]):
        return None
    rest = row[end:]
    number = 0
    if rest[:2] == [BLANK, HASH]:
        number = read_number(rest[2:3], LAST_NUMBER)
        if number == 0:
            return None
        rest = rest[3:]
    sense = 0
    if rest[:2] == [BLANK, DOT]:
        sense = read_number(rest[2:], MOST_SENSES)
        if sense == 0:
            return None
        rest = []
    if len(rest) > 0:
        return None
    return (row[:end], number, sense)


def head_end(row):
    """Where an aim's head ends: at the blank before the first mark, since no head has one in it."""
    for place, sign in enumerate(row):
        if sign in (HASH, DOT):
            return max(0, place - 1)
    return len(row)


def is_head(row):
    """Whether a row without marks is a head: one blank between words, and none at the ends."""
    return len(row) <= LONGEST_HEAD and all([len(piece) > 0 for piece in split_row(row, BLANK)])


def read_number(row, last):
    """The number from 1 to the last whose digits the row is, or 0."""
    for number in range(1, last + 1):
        if row == signs_of(str(number)):
            return number
    return 0
