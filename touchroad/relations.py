"""How the events of a scene are related under picked sources and ordered writes.

picked and after are as rings.py describes them; of a behaviour, choices.picks_of returns them.
"""

from touchroad.rings import added_order
from touchroad.statements import is_giving, is_taking


def step_order(scene, picked):
    """Return the order in which an event precedes, or is the source of, another one."""
    order = list(scene.precedes)
    for event, source in picked.items():
        if source != -1:
            order[source] |= 1 << event
    return order


def is_updating(scene, event):
    """Return whether an event reads and writes."""
    return scene.taken[event] is not None and scene.given[event] is not None


def givers_to(scene, picked, event):
    """Return the list of the events that synchronize with an event."""
    found = []
    passed = {}
    source = picked.get(event, -1) if is_taking(scene.touches[event]) else -1
    while source != -1 and source not in passed:
        passed[source] = True
        if is_giving(scene.touches[source]):
            found.append(source)
        source = picked.get(source, -1) if is_updating(scene, source) else -1
    return found


def direct_order(scene, picked):
    """Return the order in which an event precedes, or synchronizes with, another one."""
    order = list(scene.precedes)
    for event in picked:
        for giver in givers_to(scene, picked, event):
            order[giver] |= 1 << event
    return order


def under_order(scene, picked, after):
    """Return the order in which an event is directly under, or forced under, another one."""
    return added_order(scene, [0] * len(scene.events), picked, after, True)


def closed(order):
    """Return the order in which a chain of one or more pairs leads from an event to another one."""
    many = len(order)
    leads = list(order)
    for middle in range(many):
        for event in range(many):
            if leads[event] >> middle & 1:
                leads[event] |= leads[middle]
    return leads


def way_in(order, one, other):
    """Return the shortest tuple of events, of two or more, that leads from one event to another in an order."""
    ways = [(one,)]
    passed = 0
    while True:
        longer = []
        for way in ways:
            if order[way[-1]] >> other & 1:
                return way + (other,)
            fresh = order[way[-1]] & ~passed
            passed |= fresh
            longer.extend([way + (event,) for event in range(len(order)) if fresh >> event & 1])
        ways = longer


def back_in(scene, picked, after):
    """Return (before, under): events of which one happens before another and the other is under it; or None."""
    direct, under = direct_order(scene, picked), under_order(scene, picked, after)
    happens, leads = closed(direct), closed(under)
    for one in range(len(direct)):
        for other in range(len(direct)):
            if happens[one] >> other & 1 and leads[other] >> one & 1:
                return way_in(direct, one, other), way_in(under, other, one)
    return None


def is_misplaced(scene, picked, after, event):
    """Return whether the source of an event that updates is not directly before it in the order of a behaviour."""
    if not is_updating(scene, event):
        return False
    source = picked[event]
    if source != -1 and not after[source] >> event & 1:
        return True
    earlier = [write for write in scene.writers[scene.events[event][3]] if after[write] >> event & 1]
    return any([source == -1 or after[source] >> write & 1 for write in earlier])


def is_wrong_branch(words, branch):
    """Return whether the word of a branch action is known and has the other outcome."""
    _, _, node, outcome = branch
    return words[node] is not None and (words[node] != 0) != outcome


def is_wrong_await(scene, words, event):
    """Return whether an event is an await, and the word that it reads and the one it waits for differ."""
    if scene.wanted[event] is None:
        return False
    read, wanted = words[scene.taken[event]], words[scene.wanted[event]]
    return read is not None and wanted is not None and read != wanted
