"""A dictionary's text, read to its first fault."""

from wordhouse.entries import (
    MOST_ENTRIES, MOST_POINTERS, MOST_SENSES, SEE, Entry, Sense, last_pointers, same_pointer
)
from wordhouse.lines import read_line
from wordhouse.signs import LINE_END

NO_FAULT = 0
NOT_AS_TOLD = 1
TWICE_THERE = 2
WRONG_NUMBER = 3
TOLD_ALREADY = 4
TOO_MANY = 5


class Reading:
    """The entries read so far, where their lines begin, and the first fault: its kind and place, or None."""

    def __init__(self):
        self.entries = []
        self.beginnings = []
        self.fault = None


def read_text(text):
    """The text's entries as they come, or its first fault."""
    reading = Reading()
    place = 0
    while place < len(text) and reading.fault is None:
        end = line_end(text, place)
        if end == len(text):
            # What isn't ended is no line yet, so what stands in it isn't looked at.
            reading.fault = (NOT_AS_TOLD, end)
        else:
            take_line(reading, text[place:end], place)
        place = end + 1
    if reading.fault is None:
        reading.fault = numbers_fault(reading)
    return reading


def line_end(text, place):
    """Where the line from this place on is ended; the text's length if it isn't."""
    while place < len(text) and text[place] != LINE_END:
        place += 1
    return place


def take_line(reading, line, place):
    """Put what the line tells behind what is read, or keep its fault."""
    told = read_line(line)
    kind = line_fault(reading.entries, told)
    if kind != NO_FAULT:
        reading.fault = (kind, place)
    elif isinstance(told, Entry):
        reading.entries.append(told)
        reading.beginnings.append(place)
    elif isinstance(told, Sense):
        reading.entries[-1].senses.append(told)
    else:
        last_pointers(reading.entries[-1]).append(told)


def line_fault(entries, told):
    """The kind of fault of a line that tells this behind these entries."""
    if told is None:
        return NOT_AS_TOLD
    if isinstance(told, Entry):
        return TOO_MANY if len(entries) == MOST_ENTRIES else NO_FAULT
    if len(entries) == 0:
        return NOT_AS_TOLD
    if isinstance(told, Sense):
        return sense_fault(entries[-1], told)
    return pointer_fault(entries[-1], told)


def sense_fault(entry, sense):
    """The kind of fault of the entry's next sense."""
    if len(entry.pointers) > 0:
        return NOT_AS_TOLD
    if any([known.text == sense.text for known in entry.senses]):
        return TOLD_ALREADY
    return TOO_MANY if len(entry.senses) == MOST_SENSES else NO_FAULT


def pointer_fault(entry, pointer):
    """The kind of fault of the next pointer; see stands where there is no sense, the others where there is one."""
    if (pointer.kind == SEE) == (len(entry.senses) > 0):
        return NOT_AS_TOLD
    pointers = last_pointers(entry)
    if any([same_pointer(known, pointer) for known in pointers]):
        return TOLD_ALREADY
    return TOO_MANY if len(pointers) == MOST_POINTERS else NO_FAULT


def numbers_fault(reading):
    """The first entry's fault that has a wrong number, or one that was there; None if all are right."""
    alike = {}
    for entry in reading.entries:
        head = tuple(entry.head)
        alike[head] = alike.get(head, 0) + 1
    known = {}
    for entry, place in zip(reading.entries, reading.beginnings):
        head = tuple(entry.head)
        if (head, entry.number) in known:
            return (TWICE_THERE, place)
        if not fits(entry.number, alike[head]):
            return (WRONG_NUMBER, place)
        known[(head, entry.number)] = True
    return None


def fits(number, alike):
    """Whether an entry may have this number where so many entries have its head."""
    if alike == 1:
        return number == 0
    return 1 <= number <= alike
