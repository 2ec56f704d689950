"""Choices, rings and runs of short books on the sorted machine."""

from touchroad.choices import choice_of_steps, order_of_choice, ring_of_choice, sorted_run_of_choice
from touchroad.errors import InvalidRun
from touchroad.events import check_choice, check_free, sketch_of
from touchroad.keeping import kept_order
from touchroad.places import no_places
from touchroad.rings import behind_order, pairs_of
from touchroad.sortedstands import sorted_end
from touchroad.values import rebuilt


def sorted_sketch_of(book, memory):
    """Return the sketch of a short book with the sorted order; raise InvalidBook, NotShort or InvalidMemory."""
    sketch = sketch_of(book, memory)
    sketch.kept = kept_order("sorted", book, sketch.events, no_places(book), no_places(book))
    return sketch


def sorted_sketch_for(book, memory, choice):
    """Return the sketch of a short book with the sorted order; raise InvalidChoice, too."""
    sketch = sorted_sketch_of(book, memory)
    check_choice(sketch, choice)
    return sketch


def sorted_kept(book, memory):
    """Return the ascending list of the pairs of events of one core whose order the sorted machine keeps."""
    return pairs_of(sorted_sketch_of(book, memory).kept)


def sorted_behind(book, memory, choice):
    """Return the ascending list of the pairs of behind in the sorted order."""
    sketch = sorted_sketch_for(book, memory, choice)
    return pairs_of(order_of_choice(sketch, choice, behind_order))


def sorted_ring(book, memory, choice):
    """Return (kind, events) of a ring in the sorted order, None if the choice is without a ring."""
    return ring_of_choice(sorted_sketch_for(book, memory, choice), choice)


def sorted_choice_of(book, memory, run):
    """Return the choice of a run of the sorted machine."""
    sketch = sorted_sketch_of(book, memory)
    if sorted_end(book, memory, run) is None:
        raise InvalidRun(rebuilt(run))
    return choice_of_steps(sketch, book, run)


def sorted_run_of(book, memory, choice):
    """Return a run of the sorted machine whose choice is a choice without a ring in the sorted order."""
    sketch = sorted_sketch_for(book, memory, choice)
    check_free(sketch, choice)
    return sorted_run_of_choice(sketch, book, choice)
