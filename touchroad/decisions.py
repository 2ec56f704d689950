"""The parts of papers and certificates that pick sources and order writes.

The events are those of a sketch or a scene; picked and after are as rings.py describes them. takes(sketch, end,
value, picked, after) says whether any object is a paper, or a tree, where some picks hold.
"""

from touchroad.choices import sources_for
from touchroad.values import is_between, is_integer, is_tuple_of


def with_source(picked, event, source):
    """Return picks with a source more."""
    return {**picked, event: source}


def with_first(after, event, later):
    """Return picks with a pair of writes more."""
    return [mask | 1 << later if at == event else mask for at, mask in enumerate(after)]


def is_event(sketch, value):
    """Return whether any object is an event."""
    return is_between(value, 0, len(sketch.events) - 1)


def are_events(sketch, value):
    """Return whether any object is a tuple of two or more events."""
    return isinstance(value, tuple) and len(value) >= 2 and all([is_event(sketch, event) for event in value])


def is_way(order, events):
    """Return whether each pair of neighbours in a tuple of events is in an order."""
    return all([order[event] >> later & 1 == 1 for event, later in zip(events, events[1:])])


def are_at_one_cell(sketch, one, other):
    """Return whether two events are different ones that write to one cell."""
    if one == other or sketch.given[one] is None or sketch.given[other] is None:
        return False
    return sketch.events[one][3] == sketch.events[other][3]


def takes_read(takes, sketch, end, value, picked, after):
    """Return whether a tuple picks each source for an event that has none yet, with what takes accepts."""
    if len(value) != 3 or not is_event(sketch, value[1]) or sketch.taken[value[1]] is None:
        return False
    event, parts = value[1], value[2]
    if event in picked:
        return False
    sources = sources_for(sketch, event)
    if not is_tuple_of(parts, len(sources)) or not all([is_tuple_of(part, 2) for part in parts]):
        return False
    for source, part in zip(sources, parts):
        if not is_integer(part[0]) or part[0] != source:
            return False
        if not takes(sketch, end, part[1], with_source(picked, event, source), after):
            return False
    return True


def takes_first(takes, sketch, end, value, picked, after):
    """Return whether a tuple orders two writes that are not ordered yet, with what takes accepts."""
    if len(value) != 5 or not is_event(sketch, value[1]) or not is_event(sketch, value[2]):
        return False
    one, other = value[1], value[2]
    if not are_at_one_cell(sketch, one, other) or after[one] >> other & 1 or after[other] >> one & 1:
        return False
    if not takes(sketch, end, value[3], picked, with_first(after, one, other)):
        return False
    return takes(sketch, end, value[4], picked, with_first(after, other, one))


def are_counts(value, least):
    """Return whether any object is a tuple of at least so many integers from 0 on."""
    if not isinstance(value, tuple) or len(value) < least:
        return False
    return all([is_integer(item) and item >= 0 for item in value])


def branches_in(value):
    """Return the list of what a tuple with the name read or first has in it, None if it does not have the form."""
    if value[0] == "first":
        if len(value) != 5 or not are_counts(value[1:3], 2) or value[1] == value[2]:
            return None
        return [value[3], value[4]]
    if len(value) != 3 or not are_counts(value[1:2], 1) or not isinstance(value[2], tuple) or len(value[2]) == 0:
        return None
    if not all([is_tuple_of(part, 2) and is_integer(part[0]) for part in value[2]]) or value[2][0][0] != -1:
        return None
    if not all([one[0] < other[0] for one, other in zip(value[2], value[2][1:])]):
        return None
    return [part[1] for part in value[2]]


def size_with(size_of_leaf, value):
    """Return the number of leaves in any object, 0 if it does not have the form.

    size_of_leaf returns 1, or 0 for a tuple that begins with a string and does not have the form of a leaf.
    """
    if not isinstance(value, tuple) or len(value) == 0 or not isinstance(value[0], str):
        return 0
    if value[0] not in ("read", "first"):
        return size_of_leaf(value)
    branches = branches_in(value)
    if branches is None:
        return 0
    sizes = [size_with(size_of_leaf, branch) for branch in branches]
    return 0 if 0 in sizes else sum(sizes)
