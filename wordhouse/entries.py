"""Entries, their senses and their pointers."""

KINDS = ("see", "like", "unlike", "under", "part")
SEE = 0
LIKE = 1
UNLIKE = 2
UNDER = 3

LONGEST_HEAD = 40
LONGEST_SENSE = 200
LAST_NUMBER = 9
MOST_ENTRIES = 300
MOST_SENSES = 12
MOST_POINTERS = 12


class Entry:
    """A head and a number (0: none), with senses or with pointers of its own."""

    def __init__(self, head, number):
        self.head = head
        self.number = number
        self.senses = []
        self.pointers = []


class Sense:
    """A sense's text and its pointers."""

    def __init__(self, text):
        self.text = text
        self.pointers = []


class Pointer:
    """A kind (its place in KINDS) and an aim: a head, a number and a sense's number (0: none)."""

    def __init__(self, kind, head, number, sense):
        self.kind = kind
        self.head = head
        self.number = number
        self.sense = sense


def same_pointer(first, second):
    """Whether two pointers are told alike."""
    same_aim = first.head == second.head and first.number == second.number and first.sense == second.sense
    return same_aim and first.kind == second.kind


def last_pointers(entry):
    """The pointers that a pointer's line adds to: the last sense's, or the entry's if it has no sense."""
    if len(entry.senses) > 0:
        return entry.senses[-1].pointers
    return entry.pointers
