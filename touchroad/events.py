"""Choices, rings and runs of short books."""

from touchroad.checks import check_book, check_memory
from touchroad.choices import (
    choice_of_steps,
    end_of_choice,
    is_choice,
    order_of_choice,
    ring_of_choice,
    run_of_choice,
)
from touchroad.errors import InvalidChoice, InvalidRun, NotFree, NotShort
from touchroad.rings import behind_order, own_behind_order, pairs_of
from touchroad.runs import plain_end
from touchroad.sketches import Sketch, is_short_book
from touchroad.values import rebuilt


def is_short(book):
    """Return whether a book is short."""
    check_book(book)
    return is_short_book(book)


def sketch_of(book, memory):
    """Return the sketch of a short book; raise InvalidBook, NotShort or InvalidMemory."""
    if not is_short(book):
        raise NotShort(rebuilt(book))
    check_memory(memory)
    return Sketch(book, memory)


def check_choice(sketch, choice):
    """Raise InvalidChoice for any object that is not a choice."""
    if not is_choice(sketch, choice):
        raise InvalidChoice(rebuilt(choice))


def sketch_for(book, memory, choice):
    """Return the sketch of a short book; raise InvalidChoice, too."""
    sketch = sketch_of(book, memory)
    check_choice(sketch, choice)
    return sketch


def check_free(sketch, choice):
    """Raise NotFree for a choice with a ring."""
    if ring_of_choice(sketch, choice) is not None:
        raise NotFree(rebuilt(choice))


def sketch_if_free(book, memory, choice):
    """Return the sketch of a short book; raise NotFree for a choice with a ring, too."""
    sketch = sketch_for(book, memory, choice)
    check_free(sketch, choice)
    return sketch


def events(book, memory):
    """Return the list of the events."""
    return sketch_of(book, memory).events


def kept(book, memory):
    """Return the ascending list of the pairs of events of one core whose order is kept."""
    return pairs_of(sketch_of(book, memory).kept)


def behind(book, memory, choice):
    """Return the ascending list of the pairs of behind."""
    sketch = sketch_for(book, memory, choice)
    return pairs_of(order_of_choice(sketch, choice, behind_order))


def own_behind(book, memory, choice):
    """Return the ascending list of the pairs of own_behind."""
    sketch = sketch_for(book, memory, choice)
    return pairs_of(order_of_choice(sketch, choice, own_behind_order))


def ring(book, memory, choice):
    """Return (kind, events) of a ring, None if the choice is without a ring."""
    return ring_of_choice(sketch_for(book, memory, choice), choice)


def end_of(book, memory, choice):
    """Return the end that belongs to a choice without a ring."""
    return end_of_choice(sketch_if_free(book, memory, choice), choice)


def choice_of(book, memory, run):
    """Return the choice of a run."""
    sketch = sketch_of(book, memory)
    if plain_end(book, memory, run) is None:
        raise InvalidRun(rebuilt(run))
    return choice_of_steps(sketch, book, run)


def run_of(book, memory, choice):
    """Return a run whose choice is a choice without a ring."""
    return run_of_choice(sketch_if_free(book, memory, choice), book, choice)
