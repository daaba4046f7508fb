"""Steps from sense to sense, and what stands above them. A sense is told by its entry's place and its number."""

from wordhouse.entries import UNDER
from wordhouse.leading import sense_led_to


def senses_onward(house, sense):
    """The senses that are one step from this one by under."""
    pointers = house.entries[sense[0]].senses[sense[1] - 1].pointers
    aims = [sense_led_to(house, pointer) for pointer in pointers if pointer.kind == UNDER]
    return [aim for aim in aims if aim is not None]


def steps_by_under(house, start):
    """Each sense that is some steps from this one by under, itself too, and how many by the fewest."""
    steps = {start: 0}
    latest = [start]
    count = 0
    while len(latest) > 0:
        count += 1
        reached = []
        for sense in latest:
            for aim in senses_onward(house, sense):
                if aim not in steps:
                    steps[aim] = count
                    reached.append(aim)
        latest = reached
    return steps


def senses_above(house, start):
    """The senses above this one as steps, place and number, in the order of these."""
    steps = steps_by_under(house, start)
    return sorted([(steps[sense], sense[0], sense[1]) for sense in steps if sense != start])


def nearest_above_both(house, first, second):
    """The first in order of the senses above (or at) both, and its steps from each; None if there is none."""
    from_first = steps_by_under(house, first)
    from_second = steps_by_under(house, second)
    shared = [sense for sense in from_first if sense in from_second]
    if len(shared) == 0:
        return None
    best = min(shared, key=lambda sense: (from_first[sense] + from_second[sense], from_first[sense], sense))
    return (best[0], best[1], from_first[best], from_second[best])
