"""The calls, one behind another, on one new dictionary."""

from wordhouse.house import (
    House, count_before, count_by_first_rank, count_of_head, has_entry, has_sense, places_by_rhyme, places_that_end,
    places_that_start, settle
)
from wordhouse.joining import is_too_large, join_entries
from wordhouse.leading import place_onward, way_from
from wordhouse.letters import Letters, letters_fault, passes_over_a_form, read_letters
from wordhouse.reading import read_text
from wordhouse.saying import say_entries, say_entry
from wordhouse.signs import are_signs, is_text, is_word
from wordhouse.steps import nearest_above_both, senses_above
from wordhouse.words import compare_words, word_key
from wordhouse.wrong import wrong_pointers

NO_SIGNS = -1
FAULTY = -3
PASSED_FORM = -4
LEADS_ROUND = -4
LEADS_NOWHERE = -5
NONE_ABOVE_BOTH = -5
NOT_THERE = -6
TOO_LARGE = -7


def answer_begins(house, numbers, rows):
    """Leave no entries and no letters."""
    settle(house, Letters(), [])
    return [0]


def answer_letters(house, numbers, rows):
    """Tell the letters anew, and put the entries in their order."""
    text = rows[0]
    passed = rows[1]
    if not are_signs(text) or not are_signs(passed):
        return [NO_SIGNS]
    fault = letters_fault(text)
    if fault is not None:
        return [FAULTY, fault]
    letters = read_letters(numbers[0], text, passed)
    if passes_over_a_form(letters):
        return [PASSED_FORM]
    settle(house, letters, house.entries)
    return [letters.count]


def answer_key(house, numbers, rows):
    """The word's ranks with their count, its variants and its forms."""
    if not is_word(rows[0]):
        return [NO_SIGNS]
    key = word_key(house.letters, rows[0])
    return [len(key.ranks)] + key.ranks + key.variants + key.forms


def answer_order(house, numbers, rows):
    """Which of two words is first."""
    if not is_word(rows[0]) or not is_word(rows[1]):
        return [NO_SIGNS]
    return [0, compare_words(house.letters, rows[0], rows[1])]


def answer_read(house, numbers, rows):
    """Let the text's entries be the dictionary's, in the letters that there are."""
    if not is_text(rows[0]):
        return [NO_SIGNS]
    reading = read_text(rows[0])
    if reading.fault is not None:
        return [FAULTY] + list(reading.fault)
    settle(house, house.letters, reading.entries)
    return [len(house.entries)]


def answer_said(house, numbers, rows):
    """The dictionary's text."""
    text = say_entries(house.entries)
    return [len(text)] + text


def answer_entry(house, numbers, rows):
    """The lines of the entry at a place."""
    if not has_entry(house, numbers[0]):
        return [NOT_THERE]
    lines = say_entry(house.entries[numbers[0]])
    return [len(lines)] + lines


def answer_find(house, numbers, rows):
    """How many entries have the word as their head, and how many one before it."""
    if not is_word(rows[0]):
        return [NO_SIGNS]
    return [count_of_head(house, rows[0]), count_before(house, rows[0])]


def answer_starts(house, numbers, rows):
    """The places of the entries that begin with the word's ranks."""
    if not is_word(rows[0]):
        return [NO_SIGNS]
    places = places_that_start(house, word_key(house.letters, rows[0]).ranks)
    return [len(places)] + places


def answer_ends(house, numbers, rows):
    """The places of the entries that end with the word's ranks."""
    if not is_word(rows[0]):
        return [NO_SIGNS]
    places = places_that_end(house, word_key(house.letters, rows[0]).ranks)
    return [len(places)] + places


def answer_sections(house, numbers, rows):
    """The ranks that entries begin with, and how many with each."""
    counts = count_by_first_rank(house)
    return [len(counts)] + in_one_row([(rank, counts[rank]) for rank in counts])


def answer_rhymes(house, numbers, rows):
    """The places of all entries by their ranks from the last on."""
    places = places_by_rhyme(house)
    return [len(places)] + places


def answer_follow(house, numbers, rows):
    """The place that an entry, followed, comes to, and behind how many pointers."""
    if not has_entry(house, numbers[0]):
        return [NOT_THERE]
    way = way_from(house, numbers[0])
    # A way that ends though it still leads on has come to one of its own places.
    if place_onward(house, way[-1]) is not None:
        return [LEADS_ROUND]
    if len(house.entries[way[-1]].senses) == 0:
        return [LEADS_NOWHERE]
    return [0, way[-1], len(way) - 1]


def answer_above(house, numbers, rows):
    """The senses above one, and how many steps they are from it."""
    if not has_sense(house, numbers[0], numbers[1]):
        return [NOT_THERE]
    above = senses_above(house, (numbers[0], numbers[1]))
    return [len(above)] + in_one_row([(place, number, steps) for steps, place, number in above])


def answer_common(house, numbers, rows):
    """The nearest sense above two, or one of them, and how many steps it is from each."""
    if not has_sense(house, numbers[0], numbers[1]) or not has_sense(house, numbers[2], numbers[3]):
        return [NOT_THERE]
    nearest = nearest_above_both(house, (numbers[0], numbers[1]), (numbers[2], numbers[3]))
    if nearest is None:
        return [NONE_ABOVE_BOTH]
    return [0] + list(nearest)


def answer_faults(house, numbers, rows):
    """The wrong pointers, and how each is wrong."""
    wrong = wrong_pointers(house)
    return [len(wrong)] + in_one_row(wrong)


def answer_join(house, numbers, rows):
    """Let the entries be those joined with the text's."""
    if not is_text(rows[0]):
        return [NO_SIGNS]
    reading = read_text(rows[0])
    if reading.fault is not None:
        return [FAULTY] + list(reading.fault)
    second = House()
    settle(second, house.letters, reading.entries)
    joined = join_entries(house, second)
    if is_too_large(joined):
        return [TOO_LARGE]
    settle(house, house.letters, joined)
    return [len(joined)]


def in_one_row(groups):
    """The numbers of the groups, one behind another."""
    row = []
    for group in groups:
        row.extend(group)
    return row


# How many whole numbers and how many rows stand behind a call's number.
SHAPES = {
    0: (0, 0),
    1: (1, 2),
    2: (0, 1),
    3: (0, 2),
    4: (0, 1),
    5: (0, 0),
    6: (1, 0),
    7: (0, 1),
    8: (0, 1),
    9: (0, 1),
    10: (0, 0),
    11: (0, 0),
    12: (1, 0),
    13: (2, 0),
    14: (4, 0),
    15: (0, 0),
    16: (0, 1),
}

CALLS = {
    0: answer_begins,
    1: answer_letters,
    2: answer_key,
    3: answer_order,
    4: answer_read,
    5: answer_said,
    6: answer_entry,
    7: answer_find,
    8: answer_starts,
    9: answer_ends,
    10: answer_sections,
    11: answer_rhymes,
    12: answer_follow,
    13: answer_above,
    14: answer_common,
    15: answer_faults,
    16: answer_join,
}


def answers(calls):
    """What each of the calls answers, with how many numbers that is before it."""
    house = House()
    answered = []
    place = 0
    while place < len(calls):
        call = calls[place]
        shape = SHAPES[call]
        numbers = calls[place + 1:place + 1 + shape[0]]
        place += 1 + shape[0]
        rows = []
        while len(rows) < shape[1]:
            end = place + 1 + calls[place]
            rows.append(calls[place + 1:end])
            place = end
        answer = CALLS[call](house, numbers, rows)
        answered.append(len(answer))
        answered.extend(answer)
    return answered
