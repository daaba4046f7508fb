"""Where pointers lead, and where entries do when they are followed."""


def place_led_to(house, pointer):
    """The place of the entry that a pointer leads to or into, or None.

    Where no sense's number is told the entry may be without senses: that is enough for a see.
    """
    place = house.places.get((tuple(pointer.head), pointer.number))
    if place is None or pointer.sense > len(house.entries[place].senses):
        return None
    return place


def sense_led_to(house, pointer):
    """The place and the number of the sense that a pointer leads to, or None."""
    place = place_led_to(house, pointer)
    if place is None or len(house.entries[place].senses) == 0:
        return None
    return (place, max(1, pointer.sense))


def place_onward(house, place):
    """The place that an entry leads on to by its first pointer, or None; one with senses has none of its own."""
    pointers = house.entries[place].pointers
    if len(pointers) == 0:
        return None
    return place_led_to(house, pointers[0])


def way_from(house, place):
    """The places that an entry comes by when it is followed, itself first, each once."""
    way = {}
    while place is not None and place not in way:
        way[place] = True
        place = place_onward(house, place)
    return list(way)


def places_led_round(house):
    """For each place whether its entry, followed, leads round in a ring."""
    rounds = {}
    for start in range(len(house.entries)):
        way = []
        place = start
        while place is not None and place not in rounds:
            # Whoever comes here again on this way has gone round; if the way ends this is taken back.
            rounds[place] = True
            way.append(place)
            place = place_onward(house, place)
        if place is None or not rounds[place]:
            for passed in way:
                rounds[passed] = False
    return rounds
