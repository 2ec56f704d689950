"""Which pairs of events of one core the three machines keep in their order.

An order of events is a list with the set of the events behind each event, as in sketches.py.
"""

from touchroad.stands import ALONE


def marks_of(rows, names, places):
    """Return where a core has rows of these names, or something inserted before the rows in places.

    Row n is at 2 * n, and what is inserted before it at 2 * n - 1.
    """
    at_rows = [2 * row for row, instruction in enumerate(rows) if instruction[0] in names]
    return at_rows + [2 * row - 1 for row in places]


def is_parted(marks, event, later):
    """Return whether a mark is between the rows of two events."""
    return any([2 * event[1] < mark < 2 * later[1] for mark in marks])


def is_kept(machine, event, later, fences, gaps):
    """Return whether a machine keeps the order of two events of one core; fences and gaps are marks."""
    if machine == "one row" or event[2] != "store":
        return True
    if later[2] == "load":
        return is_parted(fences, event, later)
    if machine == "sorted" and later[2] == "store" and later[3] != event[3]:
        return is_parted(fences, event, later) or is_parted(gaps, event, later)
    return True


def kept_order(machine, book, events, fences, gaps):
    """Return the order of events of one core that a machine keeps, with bars inserted at these places."""
    fence_marks = [marks_of(rows, ALONE, places) for rows, places in zip(book, fences)]
    gap_marks = [marks_of(rows, ("gap",), places) for rows, places in zip(book, gaps)]
    order = []
    for at, event in enumerate(events):
        core = event[0]
        order.append(sum([
            1 << later
            for later in range(at + 1, len(events))
            if events[later][0] == core
            and is_kept(machine, event, events[later], fence_marks[core], gap_marks[core])
        ]))
    return order
