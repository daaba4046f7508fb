"""The calls, one behind another, on one new dictionary."""

from wordhouse.house import House, count_before, count_of_head, places_that_start, settle
from wordhouse.letters import Letters, letters_fault, passes_over_a_form, read_letters
from wordhouse.reading import read_text
from wordhouse.saying import say_entries, say_entry
from wordhouse.signs import are_signs, is_text, is_word
from wordhouse.words import compare_words, word_key

NO_SIGNS = -1
FAULTY = -3
PASSED_FORM = -4
NOT_THERE = -6


def answer_begins(house, numbers, rows):
    """Leave no entries and no letters."""
    settle(house, Letters(), [])
    return [0]


def answer_letters(house, numbers, rows):
    """Tell the letters anew, and put the entries in their order."""
    text = rows[0]
    passed = rows[1]
    if not are_signs(text) or not are_signs(passed):
        return [NO_SIGNS]
    fault = letters_fault(text)
    if fault is not None:
        return [FAULTY, fault]
    letters = read_letters(numbers[0], text, passed)
    if passes_over_a_form(letters):
        return [PASSED_FORM]
    settle(house, letters, house.entries)
    return [letters.count]


def answer_key(house, numbers, rows):
    """The word's ranks with their count, its variants and its forms."""
    if not is_word(rows[0]):
        return [NO_SIGNS]
    key = word_key(house.letters, rows[0])
    return [len(key.ranks)] + key.ranks + key.variants + key.forms


def answer_order(house, numbers, rows):
    """Which of two words is first."""
    if not is_word(rows[0]) or not is_word(rows[1]):
        return [NO_SIGNS]
    return [0, compare_words(house.letters, rows[0], rows[1])]


def answer_read(house, numbers, rows):
    """Let the text's entries be the dictionary's, in the letters that there are."""
    if not is_text(rows[0]):
        return [NO_SIGNS]
    reading = read_text(rows[0])
    if reading.fault is not None:
        return [FAULTY] + list(reading.fault)
    settle(house, house.letters, reading.entries)
    return [len(house.entries)]


def answer_said(house, numbers, rows):
    """The dictionary's text."""
    text = say_entries(house.entries)
    return [len(text)] + text


def answer_entry(house, numbers, rows):
    """The lines of the entry at a place."""
    if numbers[0] >= len(house.entries):
        return [NOT_THERE]
    lines = say_entry(house.entries[numbers[0]])
    return [len(lines)] + lines


def answer_find(house, numbers, rows):
    """How many entries have the word as their head, and how many one before it."""
    if not is_word(rows[0]):
        return [NO_SIGNS]
    return [count_of_head(house, rows[0]), count_before(house, rows[0])]


def answer_starts(house, numbers, rows):
    """The places of the entries that begin with the word's ranks."""
    if not is_word(rows[0]):
        return [NO_SIGNS]
    places = places_that_start(house, word_key(house.letters, rows[0]).ranks)
    return [len(places)] + places


# How many whole numbers and how many rows stand behind a call's number.
SHAPES = {
    0: (0, 0),
    1: (1, 2),
    2: (0, 1),
    3: (0, 2),
    4: (0, 1),
    5: (0, 0),
    6: (1, 0),
    7: (0, 1),
    8: (0, 1),
}

CALLS = {
    0: answer_begins,
    1: answer_letters,
    2: answer_key,
    3: answer_order,
    4: answer_read,
    5: answer_said,
    6: answer_entry,
    7: answer_find,
    8: answer_starts,
}


def answers(calls):
    """What each of the calls answers, with how many numbers that is before it."""
    house = House()
    answered = []
    place = 0
    while place < len(calls):
        call = calls[place]
        shape = SHAPES[call]
        numbers = calls[place + 1:place + 1 + shape[0]]
        place += 1 + shape[0]
        rows = []
        while len(rows) < shape[1]:
            end = place + 1 + calls[place]
            rows.append(calls[place + 1:end])
            place = end
        answer = CALLS[call](house, numbers, rows)
        answered.append(len(answer))
        answered.extend(answer)
    return answered
