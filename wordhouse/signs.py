"""The signs that have a meaning of their own, and the bounds of signs, words and texts."""

LINE_END = 10
BLANK = 32
HASH = 35
COMMA = 44
DASH = 45
DOT = 46
SLASH = 47
EQUALS = 61
ARROW = 62

LAST_SIGN = 65535
LONGEST_WORD = 200
LONGEST_TEXT = 20000


def are_signs(row):
    """Whether every number of the row is a sign."""
    return all([1 <= number <= LAST_SIGN for number in row])


def is_word(row):
    """Whether the row may be asked for as a word."""
    return len(row) <= LONGEST_WORD and are_signs(row)


def is_text(row):
    """Whether the row may be read as a dictionary's text."""
    return len(row) <= LONGEST_TEXT and are_signs(row)


def signs_of(text):
    """The signs of one of Python's texts."""
    return [ord(sign) for sign in text]


def split_row(row, separator):
    """The pieces of the row between the separators; one more than there are separators."""
    pieces = []
    begin = 0
    for place, sign in enumerate(row):
        if sign == separator:
            pieces.append(row[begin:place])
            begin = place + 1
    pieces.append(row[begin:])
    return pieces
