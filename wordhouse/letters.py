"""An order of letters, and the text that tells it."""

from wordhouse.signs import BLANK, COMMA, LINE_END, SLASH, split_row

LONGEST_FORM = 4
MOST_FORMS = 400


class Letters:
    """What each form stands for, which signs are passed over, and from where variants are looked at."""

    def __init__(self):
        self.count = 0
        self.forms = {}
        self.passed_over = {}
        self.from_end = 0


def letters_fault(text):
    """The place of the text's first fault, or None."""
    known = {}
    begin = 0
    for place in range(len(text) + 1):
        if place < len(text) and text[place] not in (BLANK, SLASH, COMMA):
            if text[place] == LINE_END or place - begin == LONGEST_FORM:
                return place
        else:
            if place == begin:
                return place
            form = tuple(text[begin:place])
            if form in known or len(known) == MOST_FORMS:
                return begin
            known[form] = True
            begin = place + 1
    return None


def read_letters(from_end, text, passed):
    """The order that a text without fault tells."""
    letters = Letters()
    letters.from_end = from_end
    for sign in passed:
        letters.passed_over[sign] = True
    told = split_row(text, BLANK)
    letters.count = len(told)
    for rank, letter in enumerate(told):
        for variant, group in enumerate(split_row(letter, SLASH)):
            for number, form in enumerate(split_row(group, COMMA)):
                letters.forms[tuple(form)] = (rank, variant, number)
    return letters


def passes_over_a_form(letters):
    """Whether a sign that is passed over is a form by itself."""
    return any([(sign,) in letters.forms for sign in letters.passed_over])
