"""Orders of events under picked sources and ordered writes, and the rings in them.

picked is a dict with the source of each event that has one. after is a list with the set of the writes
that are ordered after each event.
"""


def added_order(sketch, order, picked, after, own):
    """Return an order with the pairs that the picks add, those of sources in one core only if own is True."""
    order = [behind | later for behind, later in zip(order, after)]
    for event, source in picked.items():
        core, _, _, cell = sketch.events[event]
        if source == -1:
            later = sum([1 << write for write in sketch.writers[cell]])
        else:
            later = after[source]
            if own or sketch.events[source][0] != core:
                order[source] |= 1 << event
        order[event] |= later & ~(1 << event)
    return order


def behind_order(sketch, picked, after):
    """Return the order of behind."""
    return added_order(sketch, sketch.kept, picked, after, False)


def own_behind_order(sketch, picked, after):
    """Return the order of own_behind."""
    return added_order(sketch, sketch.own, picked, after, True)


def pairs_of(order):
    """Return the ascending list of the pairs of an order."""
    return [
        (event, later)
        for event, behind in enumerate(order)
        for later in range(len(order))
        if behind >> later & 1
    ]


def unwound(order, left):
    """Return (events, rest): the events of a set that are in no ring and lead to none, the last ones first."""
    events = []
    shrinking = True
    while shrinking:
        shrinking = False
        for event, behind in enumerate(order):
            if left >> event & 1 and behind & left == 0:
                left ^= 1 << event
                events.append(event)
                shrinking = True
    return events, left


def lowest(mask):
    """Return the least event of a set that is not empty."""
    return (mask & -mask).bit_length() - 1


def ring_among(order, events):
    """Return a ring of an order among a set of events, None if there is none."""
    _, left = unwound(order, events)
    if left == 0:
        return None
    way = [lowest(left)]
    following = lowest(order[way[0]] & left)
    while following not in way:
        way.append(following)
        following = lowest(order[following] & left)
    return tuple(way[way.index(following):])


def named_ring(sketch, picked, after, events):
    """Return (kind, ring) of a ring among a set of events, None if there is none."""
    ring = ring_among(behind_order(sketch, picked, after), events)
    if ring is not None:
        return ("behind", ring)
    ring = ring_among(own_behind_order(sketch, picked, after), events)
    return None if ring is None else ("own", ring)
