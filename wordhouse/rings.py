"""Rings: what leads to one another both ways, found in two walks instead of one walk for each."""


def find_rings(leads):
    """For each key of leads the ring that it is in: two are in one if each is some steps from the other.

    Leads has for each key the keys that are one step from it; what is no key of it leads nowhere, so is in no ring.
    """
    back = turned_round(leads)
    ring_of = {}
    for root in reversed(leaving_order(leads)):
        waiting = [root]
        while len(waiting) > 0:
            key = waiting.pop()
            if key not in ring_of:
                ring_of[key] = root
                waiting.extend(back[key])
    return ring_of


def turned_round(leads):
    """For each key the keys that it is one step from."""
    back = {}
    for key in leads:
        back[key] = []
    for key in leads:
        for aim in leads[key]:
            if aim in back:
                back[aim].append(key)
    return back


def leaving_order(leads):
    """The keys in the order in which a walk into the depth leaves them for good."""
    left = []
    entered = {}
    waiting = [(key, False) for key in leads]
    while len(waiting) > 0:
        turn = waiting.pop()
        if turn[1]:
            left.append(turn[0])
        elif turn[0] not in entered:
            entered[turn[0]] = True
            waiting.append((turn[0], True))
            waiting.extend([(aim, False) for aim in leads[turn[0]] if aim in leads])
    return left
