"""Whether the choices of a short book stay without a ring in a stronger order, whatever words the memory has.

weak and strong are machines, as keeping.py names them: the choices are without a ring in the order of the weak
one, and the bars, fences beside "plain" and gaps beside "sorted", make this order stronger.
"""

from touchroad.barneeds import needed_for_choices
from touchroad.checks import check_number
from touchroad.choicesearch import bad_choices
from touchroad.errors import NotShort
from touchroad.events import is_short
from touchroad.keeping import kept_order
from touchroad.leastbars import least_bars_by
from touchroad.places import no_places
from touchroad.sketches import Sketch
from touchroad.values import rebuilt


def sketch_for_all(book, cells):
    """Return the sketch of a short book and some memory; raise InvalidBook, NotShort or InvalidNumber."""
    if not is_short(book):
        raise NotShort(rebuilt(book))
    check_number(cells, 1, 32)
    return Sketch(book, (0,) * cells)


def choices_between(book, sketch, weak, strong, only_first):
    """Return the choices, or the first one alone, with a ring in the strong order and none in the weak one."""
    none = no_places(book)
    weak_order = kept_order(weak, book, sketch.events, none, none)
    strong_order = kept_order(strong, book, sketch.events, none, none)
    return bad_choices(sketch, weak_order, strong_order, only_first)


def first_choice_between(book, cells, weak, strong):
    """Return the first choice with a ring in the strong order and none in the weak one, None if there is none."""
    found = choices_between(book, sketch_for_all(book, cells), weak, strong, True)
    return found[0][0] if len(found) > 0 else None


def least_bars_for_all(book, cells, weak, strong):
    """Return the first (fences, gaps) with which no choice is between the weak and the strong order."""
    sketch = sketch_for_all(book, cells)
    kind = 0 if weak == "plain" else 1
    given = (sketch, weak, choices_between(book, sketch, weak, strong, False))
    return least_bars_by(book, (kind,), given, needed_for_choices)
