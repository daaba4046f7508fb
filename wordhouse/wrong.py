"""Wrong pointers."""

from wordhouse.entries import LIKE, UNLIKE
from wordhouse.leading import place_led_to, places_led_round, sense_led_to
from wordhouse.rings import find_rings

RIGHT = 0
LEADS_NOWHERE = 1
NOT_ANSWERED = 2
IN_A_RING = 3
LEADS_ROUND = 4


def wrong_pointers(house):
    """Of each wrong pointer: which of the four, the entry's place, the sense's number (0: none), its place there."""
    leads = leads_by_kind(house)
    ring_of = find_rings(leads)
    rounds = places_led_round(house)
    found = []
    for place, entry in enumerate(house.entries):
        for turn, pointer in enumerate(entry.pointers):
            found.append((see_wrong(house, pointer, rounds[place]), place, 0, turn))
        for number, sense in enumerate(entry.senses, start=1):
            for turn, pointer in enumerate(sense.pointers):
                own = (pointer.kind, place, number)
                which = sense_pointer_wrong(own, aim_of(house, pointer), leads, ring_of)
                found.append((which, place, number, turn))
    return [each for each in found if each[0] != RIGHT]


def aim_of(house, pointer):
    """The sense that a pointer leads to, behind the kind, since steps keep to one kind; or None."""
    sense = sense_led_to(house, pointer)
    if sense is None:
        return None
    return (pointer.kind, sense[0], sense[1])


def leads_by_kind(house):
    """For each kind and sense the aims of its pointers of that kind, where they lead somewhere."""
    leads = {}
    for place, entry in enumerate(house.entries):
        for number, sense in enumerate(entry.senses, start=1):
            for pointer in sense.pointers:
                aim = aim_of(house, pointer)
                if aim is not None:
                    leads.setdefault((pointer.kind, place, number), []).append(aim)
    return leads


def see_wrong(house, pointer, leads_round):
    """Which of the four a see is, or 0."""
    if place_led_to(house, pointer) is None:
        return LEADS_NOWHERE
    return LEADS_ROUND if leads_round else RIGHT


def sense_pointer_wrong(own, aim, leads, ring_of):
    """Which of the four a pointer from its own kind and sense to this aim is, or 0."""
    if aim is None:
        return LEADS_NOWHERE
    if own[0] in (LIKE, UNLIKE):
        return RIGHT if own in leads.get(aim, []) else NOT_ANSWERED
    # A sense that leads nowhere by this kind is in no ring.
    return IN_A_RING if ring_of.get(aim) == ring_of[own] else RIGHT
