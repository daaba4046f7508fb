"""The dictionary that a list of calls is about."""

from wordhouse.letters import Letters
from wordhouse.words import sorting_row


class House:
    """An order of letters, the entries in that order, and what each one's head is sorted by."""

    def __init__(self):
        self.letters = Letters()
        self.entries = []
        self.head_rows = []


def settle(house, letters, entries):
    """Let the dictionary have these letters and these entries, put in order."""
    rows = [sorting_row(letters, entry.head) for entry in entries]
    order = sorted(range(len(entries)), key=lambda place: (rows[place], entries[place].number))
    house.letters = letters
    house.entries = [entries[place] for place in order]
    house.head_rows = [rows[place] for place in order]


def count_of_head(house, word):
    """How many entries have this head."""
    return len([entry for entry in house.entries if entry.head == word])


def count_before(house, word):
    """How many entries have a head before this word."""
    asked = sorting_row(house.letters, word)
    return len([row for row in house.head_rows if row < asked])


def places_that_start(house, ranks):
    """The places of the entries whose ranks begin with these."""
    return [place for place, row in enumerate(house.head_rows) if row[0][:len(ranks)] == ranks]
