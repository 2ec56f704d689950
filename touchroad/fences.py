"""Where fences are needed."""

from touchroad.barneeds import needed_for_choices, needed_for_ends
from touchroad.checks import check_book, check_number
from touchroad.choicesearch import bad_choices
from touchroad.ends import late_end, one_row_ends
from touchroad.errors import NotShort
from touchroad.events import is_short
from touchroad.keeping import kept_order
from touchroad.leastbars import least_bars_by
from touchroad.places import barred_book, check_places, no_places
from touchroad.searches import plain_moves
from touchroad.sketches import Sketch
from touchroad.values import rebuilt


def fenced(book, places):
    """Return the book with a fence before each of these rows."""
    check_book(book)
    check_places(book, places)
    return barred_book(book, (places, no_places(book)))


def as_one_row(book, memory):
    """Return whether the plain machine has no other ends than the one-row machine."""
    return late_end(book, memory) is None


def least_fences(book, memory):
    """Return the first places of fences with which as_one_row holds."""
    allowed = {end: True for end in one_row_ends(book, memory)}
    return least_bars_by(book, (0,), (memory, plain_moves, allowed), needed_for_ends)[0]


def sketch_for_all(book, cells):
    """Return the sketch of a short book and some memory; raise InvalidBook, NotShort or InvalidNumber."""
    if not is_short(book):
        raise NotShort(rebuilt(book))
    check_number(cells, 1, 32)
    return Sketch(book, (0,) * cells)


def late_choices(book, sketch, only_first):
    """Return the choices, or the first one alone, that are without a ring, but not if all pairs are kept."""
    none = no_places(book)
    return bad_choices(sketch, sketch.kept, kept_order("one row", book, sketch.events, none, none), only_first)


def one_row_for_all(book, cells):
    """Return whether each choice without a ring stays so if all pairs of events of one core are kept."""
    return bad_choice(book, cells) is None


def bad_choice(book, cells):
    """Return the first choice that is without a ring, but not if all pairs are kept; None if there is none."""
    found = late_choices(book, sketch_for_all(book, cells), True)
    return found[0][0] if len(found) > 0 else None


def least_for_all(book, cells):
    """Return the first places of fences with which one_row_for_all holds."""
    sketch = sketch_for_all(book, cells)
    given = (sketch, "plain", late_choices(book, sketch, False))
    return least_bars_by(book, (0,), given, needed_for_choices)[0]
