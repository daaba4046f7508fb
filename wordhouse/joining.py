"""Two dictionaries joined."""

from wordhouse.entries import (
    LAST_NUMBER, MOST_ENTRIES, MOST_POINTERS, MOST_SENSES, Entry, Pointer, Sense, same_pointer
)
from wordhouse.leading import place_led_to


def join_entries(first, second):
    """The joined one's entries, new ones, maybe more or larger ones than a dictionary may have."""
    joined = [Entry(entry.head, 0) for entry in first.entries]
    first_joined = list(joined)
    second_joined = []
    for entry, partner in zip(second.entries, partners(first, second)):
        if partner is None:
            joined.append(Entry(entry.head, 0))
            second_joined.append(joined[-1])
        else:
            second_joined.append(joined[partner])
    give_numbers(joined)
    # A pointer's new aim needs all numbers and all senses, so pointers come last.
    add_senses(first, first_joined)
    add_senses(second, second_joined)
    add_pointers(first, first_joined)
    add_pointers(second, second_joined)
    return joined


def partners(first, second):
    """For each of the second's entries the place of the first's that it is put with, or None."""
    by_head = {}
    for place, entry in enumerate(first.entries):
        by_head.setdefault(tuple(entry.head), []).append(place)
    taken = {}
    found = []
    for entry in second.entries:
        places = by_head.get(tuple(entry.head), [])
        free = [place for place in places if place not in taken and of_one_word(first.entries[place], entry)]
        if len(free) > 0:
            taken[free[0]] = True
            found.append(free[0])
        else:
            found.append(None)
    return found


def of_one_word(first, second):
    """Whether two entries of one head have a sense's text in common, or neither has a sense."""
    if len(first.senses) == 0 and len(second.senses) == 0:
        return True
    return any([sense_number(first, sense.text) > 0 for sense in second.senses])


def sense_number(entry, text):
    """The number of the entry's sense of this text; 0 if it has none."""
    for number, sense in enumerate(entry.senses, start=1):
        if sense.text == text:
            return number
    return 0


def give_numbers(entries):
    """Number those of one head from 1 as they come; one whose head is its alone keeps its 0."""
    by_head = {}
    for entry in entries:
        by_head.setdefault(tuple(entry.head), []).append(entry)
    for alike in list(by_head.values()):
        if len(alike) > 1:
            for number, entry in enumerate(alike, start=1):
                entry.number = number


def add_senses(house, joined):
    """Put each entry's senses behind those of its joined one, where their texts aren't there yet."""
    for entry, target in zip(house.entries, joined):
        for sense in entry.senses:
            if sense_number(target, sense.text) == 0:
                target.senses.append(Sense(sense.text))


def add_pointers(house, joined):
    """Put the pointers of each entry and of each sense behind those of its joined one, told anew."""
    for entry, target in zip(house.entries, joined):
        add_each_once(target.pointers, entry.pointers, house, joined)
        for sense in entry.senses:
            twin = target.senses[sense_number(target, sense.text) - 1]
            add_each_once(twin.pointers, sense.pointers, house, joined)


def add_each_once(pointers, added, house, joined):
    """Put the added pointers, told anew, behind these, but for those that are there already."""
    for pointer in added:
        told = told_anew(pointer, house, joined)
        if not any([same_pointer(known, told) for known in pointers]):
            pointers.append(told)


def told_anew(pointer, house, joined):
    """The pointer so told that it leads in the joined one where it led in its own; as it was if that was nowhere."""
    place = place_led_to(house, pointer)
    if place is None:
        return pointer
    target = joined[place]
    sense = 0
    if pointer.sense != 0:
        sense = sense_number(target, house.entries[place].senses[pointer.sense - 1].text)
    return Pointer(pointer.kind, pointer.head, target.number, sense)


def is_too_large(entries):
    """Whether these are more, or more in one, than a dictionary may have."""
    return len(entries) > MOST_ENTRIES or any([is_entry_too_large(entry) for entry in entries])


def is_entry_too_large(entry):
    """Whether the entry has too high a number, too many senses, or too many pointers in one place."""
    if entry.number > LAST_NUMBER or len(entry.senses) > MOST_SENSES or len(entry.pointers) > MOST_POINTERS:
        return True
    return any([len(sense.pointers) > MOST_POINTERS for sense in entry.senses])
