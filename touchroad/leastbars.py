"""The least bars of a book that suffice for something, for books that have been checked.

A bar is (kind, core, row): kind is 0 for a fence and 1 for a gap. Bars that suffice still do so with more bars.
"""

from touchroad.places import no_places


def bars_of(book, kinds):
    """Return the list of all bars of these kinds."""
    return [(kind, core, row) for kind in kinds for core, rows in enumerate(book) for row in range(len(rows) + 1)]


def picked_from(items, count):
    """Return the list of the tuples of so many of the items, in the sequence of the items."""
    if count == 0:
        return [()]
    return [
        (item,) + rest
        for at, item in enumerate(items)
        for rest in picked_from(items[at + 1:], count - 1)
    ]


def places_with(book, bars, kind):
    """Return the places of the bars of a kind."""
    places = [[] for _ in book]
    for own, core, row in bars:
        if own == kind:
            places[core].append(row)
    return tuple([tuple(rows) for rows in places])


def candidates(book, items, count):
    """Return the list of (number of fences, fences, gaps, bars) for so many bars, in their sequence."""
    found = []
    for bars in picked_from(items, count):
        fences = [bar for bar in bars if bar[0] == 0]
        found.append((len(fences), places_with(book, bars, 0), places_with(book, bars, 1), bars))
    return sorted(found)


def least_bars_by(book, kinds, given, needed):
    """Return the first (fences, gaps) that suffice, those with fewer bars first.

    needed(book, given, fences, gaps) returns None for bars that suffice, and otherwise a list of bars one
    of which is among any bars that suffice. So most candidates need not be tried.
    """
    items = bars_of(book, kinds)
    cuts = []
    for count in range(len(items) + 1):
        for _, fences, gaps, bars in candidates(book, items, count):
            if any([not any([bar in cut for bar in bars]) for cut in cuts]):
                continue
            wanted = needed(book, given, fences, gaps)
            if wanted is None:
                return fences, gaps
            cuts.append({bar: True for bar in wanted})
    return no_places(book), no_places(book)
