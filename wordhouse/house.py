"""The dictionary that a list of calls is about."""

from wordhouse.letters import Letters
from wordhouse.words import sorting_row


class House:
    """An order of letters, the entries in that order, what each one's head is sorted by, and where each stands."""

    def __init__(self):
        self.letters = Letters()
        self.entries = []
        self.head_rows = []
        self.places = {}


def settle(house, letters, entries):
    """Let the dictionary have these letters and these entries, put in order."""
    rows = [sorting_row(letters, entry.head) for entry in entries]
    order = sorted(range(len(entries)), key=lambda place: (rows[place], entries[place].number))
    house.letters = letters
    house.entries = [entries[place] for place in order]
    house.head_rows = [rows[place] for place in order]
    house.places = {}
    for place, entry in enumerate(house.entries):
        house.places[(tuple(entry.head), entry.number)] = place


def has_entry(house, place):
    """Whether an entry stands at this place."""
    return place < len(house.entries)


def has_sense(house, place, number):
    """Whether the entry at this place has a sense of this number."""
    return has_entry(house, place) and 1 <= number <= len(house.entries[place].senses)


def count_of_head(house, word):
    """How many entries have this head."""
    return len([entry for entry in house.entries if entry.head == word])


def count_before(house, word):
    """How many entries have a head before this word."""
    asked = sorting_row(house.letters, word)
    return len([row for row in house.head_rows if row < asked])


def places_that_start(house, ranks):
    """The places of the entries whose ranks begin with these."""
    return [place for place, row in enumerate(house.head_rows) if row[0][:len(ranks)] == ranks]


def places_that_end(house, ranks):
    """The places of the entries whose ranks end with these."""
    return [place for place, row in enumerate(house.head_rows) if ends_with(row[0], ranks)]


def ends_with(row, tail):
    """Whether the row ends with the tail; counted from the left, since a slice from -0 on would be the whole row."""
    return row[max(0, len(row) - len(tail)):] == tail


def count_by_first_rank(house):
    """Each rank that an entry's ranks begin with, as they come, and how many entries' do."""
    counts = {}
    for row in house.head_rows:
        for rank in row[0][:1]:
            counts[rank] = counts.get(rank, 0) + 1
    return counts


def places_by_rhyme(house):
    """The places of the entries by their ranks from the last to the first."""
    turned = [list(reversed(row[0])) for row in house.head_rows]
    return sorted(range(len(turned)), key=lambda place: turned[place])
