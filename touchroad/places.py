"""Places of a book, and the book with fences and gaps inserted there.

Bars are a tuple (fences, gaps) of places.
"""

from touchroad.errors import InvalidPlaces
from touchroad.values import is_ascending, is_tuple_of, rebuilt


def is_places(book, value):
    """Return whether any object is places of a book."""
    if not is_tuple_of(value, len(book)):
        return False
    return all([is_ascending(rows, len(own) + 1) for rows, own in zip(value, book)])


def check_places(book, places):
    """Raise InvalidPlaces for any object that is not places of a book."""
    if not is_places(book, places):
        raise InvalidPlaces(rebuilt(places))


def no_places(book):
    """Return the places of a book at which nothing is inserted."""
    return tuple([() for _ in book])


def moved(instruction, starts):
    """Return an instruction with its t, if it has one, leading to where a row begins now."""
    if instruction[0] in ("jump", "ifzero"):
        return instruction[:-1] + (starts[instruction[-1]],)
    return instruction


def barred_rows(rows, fences, gaps):
    """Return the rows of a core with a fence or a gap before each of these rows, the gap first."""
    inserted = [
        (("gap",),) * gaps.count(row) + (("fence",),) * fences.count(row)
        for row in range(len(rows) + 1)
    ]
    starts = [row + sum([len(bars) for bars in inserted[:row]]) for row in range(len(rows) + 1)]
    made = ()
    for row, instruction in enumerate(rows):
        made = made + inserted[row] + (moved(instruction, starts),)
    return made + inserted[-1]


def barred_book(book, bars):
    """Return the book with bars."""
    return tuple([barred_rows(rows, fences, gaps) for rows, fences, gaps in zip(book, bars[0], bars[1])])


def rows_in_barred(rows, fences, gaps):
    """Return a dict from the row that each row has in the barred rows to the row itself."""
    return {
        row + len([at for at in fences + gaps if at <= row]): row
        for row in range(len(rows))
    }
