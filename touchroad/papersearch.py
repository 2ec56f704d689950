"""The search for a choice with an end, or for a paper against the end."""

from touchroad.decisionsearch import choice_or_refusal
from touchroad.paperwalk import takes, wrong_cell, wrong_word
from touchroad.rings import named_ring
from touchroad.sketches import known_words


def accesses_of(sketch):
    """Return the set of the events that are no fences.

    A ring through a fence goes on without it, since the fence is kept with all events of its core.
    """
    return sum([1 << event for event, (_, _, name, _) in enumerate(sketch.events) if name != "fence"])


def closing(sketch, end, picked, after):
    """Return a ring, word or cell that is against the end under these picks, None if there is none."""
    found = named_ring(sketch, picked, after, accesses_of(sketch))
    if found is not None:
        return ("ring", found[0], found[1])
    words = known_words(sketch, picked)
    for core in range(len(sketch.last)):
        for number in range(8):
            if wrong_word(sketch, end, words, core, number):
                return ("word", core, number)
    for cell in range(len(sketch.memory)):
        if wrong_cell(sketch, end, words, after, cell):
            return ("cell", cell)
    return None


def choice_or_paper(sketch, end):
    """Return ("choice", choice) with a choice whose end it is, or ("paper", paper) with a paper against it."""
    return choice_or_refusal(sketch, end, (closing, takes))
