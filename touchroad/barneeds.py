"""Which bars are needed, by one run or one choice that they have to make impossible; see leastbars.py."""

from touchroad.choicesearch import has_ring
from touchroad.keeping import kept_order
from touchroad.leastbars import bars_of, places_with
from touchroad.places import barred_book, rows_in_barred
from touchroad.rings import added_order
from touchroad.searches import links_to, reached
from touchroad.stands import end_of_stand, is_ended


def links_to_other_end(book, memory, moves, allowed):
    """Return the way to a stand that has ended with an end that is not allowed, None if there is none."""
    before = reached(book, memory, moves)
    for stand in before:
        if is_ended(book, stand) and end_of_stand(stand) not in allowed:
            return links_to(before, stand)
    return None


class Watch:
    """What a core has done on a way: the numbers of its late stores, and the rows that it passed with some late.

    passed has tuples (row, stores that were done before it). broken has the bars that the way passes by.
    """

    def __init__(self, core, rows_of):
        self.core = core
        self.rows_of = rows_of
        self.done = 0
        self.late = []
        self.passed = []
        self.broken = []


def watch_do(watch, row, name):
    """Watch an instruction at a row of the barred book."""
    own = watch.rows_of.get(row)
    if own is not None and len(watch.late) > 0:
        watch.broken.append((0, watch.core, own))
        watch.passed.append((own, watch.done))
    if name == "store":
        watch.late.append(watch.done)
        watch.done += 1


def watch_flush(watch, stores, step):
    """Watch a flush; a gap between the store and an older one that is still late would not let it."""
    at = 0
    if len(step) == 3:
        at = [store[0] for store in stores if store is not None].index(step[2])
    number = watch.late.pop(at)
    oldest = min(watch.late + [number])
    watch.broken.extend([(1, watch.core, row) for row, count in watch.passed if oldest < count <= number])


def needed_for_ends(book, given, fences, gaps):
    """Return bars that are needed if the barred book has other ends than allowed, None if it has none.

    given is (memory, moves, allowed) with the moves of the plain or the sorted machine.
    """
    memory, moves, allowed = given
    barred = barred_book(book, (fences, gaps))
    links = links_to_other_end(barred, memory, moves, allowed)
    if links is None:
        return None
    watches = [
        Watch(core, rows_in_barred(book[core], fences[core], gaps[core]))
        for core in range(len(book))
    ]
    for stand, step in links:
        row, _, stores = stand[0][step[1]]
        if step[0] == "do":
            watch_do(watches[step[1]], row, barred[step[1]][row][0])
        else:
            watch_flush(watches[step[1]], stores, step)
    return [bar for watch in watches for bar in watch.broken]


def is_free_with(book, given, bad, bars):
    """Return whether a bad choice stays without a ring with these bars."""
    sketch, machine, _ = given
    _, picked, after = bad
    kept = kept_order(machine, book, sketch.events, places_with(book, bars, 0), places_with(book, bars, 1))
    return not has_ring(sketch, added_order(sketch, kept, picked, after, False))


def needed_against(book, given, bad, bars, kind):
    """Return the bars of a kind that are not among as many as possible with which a bad choice stays free."""
    left = []
    for bar in bars_of(book, (kind,)):
        if bar not in bars:
            if is_free_with(book, given, bad, bars + [bar]):
                bars = bars + [bar]
            else:
                left.append(bar)
    return left


def needed_for_choices(book, given, fences, gaps):
    """Return bars that are needed if a bad choice stays without a ring, None if none does.

    given is (sketch, machine, bad choices) with the machine whose order the bars make stronger: "plain" by
    fences, "sorted" by gaps.
    """
    sketch, machine, bad_ones = given
    kept = kept_order(machine, book, sketch.events, fences, gaps)
    kind = 0 if machine == "plain" else 1
    for bad in bad_ones:
        if not has_ring(sketch, added_order(sketch, kept, bad[1], bad[2], False)):
            bars = [
                (kind, core, row)
                for core, rows in enumerate(fences if kind == 0 else gaps)
                for row in rows
            ]
            return needed_against(book, given, bad, bars, kind)
    return None
