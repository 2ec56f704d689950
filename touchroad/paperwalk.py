"""The checker of papers and their size, for ends and sketches that have been checked.

The checker walks a paper with the picks that hold, picked and after, as rings.py describes them.
"""

from touchroad.decisions import are_counts, are_events, is_way, size_with, takes_first, takes_read
from touchroad.rings import behind_order, own_behind_order
from touchroad.sketches import known_words
from touchroad.values import is_between, is_one_of


def takes_ring(sketch, paper, picked, after):
    """Return whether a tuple is a paper that names a ring."""
    if len(paper) != 3 or not is_one_of(paper[1], ("behind", "own")):
        return False
    way = paper[2]
    if not are_events(sketch, way) or len(set(way)) < len(way):
        return False
    order = behind_order(sketch, picked, after) if paper[1] == "behind" else own_behind_order(sketch, picked, after)
    return is_way(order, way + way[:1])


def wrong_word(sketch, end, words, core, register):
    """Return whether the last word of a register, or a variable, is known, and not that of an end."""
    word = words[sketch.last[core][register]]
    return word is not None and word != end[0][core][register]


def takes_word(sketch, end, paper, picked):
    """Return whether a tuple is a paper that names a register, or a tree that names a variable."""
    if len(paper) != 3 or not is_between(paper[1], 0, len(end[0]) - 1):
        return False
    if not is_between(paper[2], 0, len(end[0][paper[1]]) - 1):
        return False
    return wrong_word(sketch, end, known_words(sketch, picked), paper[1], paper[2])


def last_write(writers, after):
    """Return the write that is ordered before no other one and to which all others lead, None if there is none."""
    ends = [write for write in writers if after[write] == 0]
    if len(ends) != 1:
        return None
    leading = 1 << ends[0]
    growing = True
    while growing:
        more = sum([1 << write for write in writers if not leading >> write & 1 and after[write] & leading])
        leading |= more
        growing = more > 0
    return ends[0] if all([leading >> write & 1 for write in writers]) else None


def wrong_cell(sketch, end, words, after, cell):
    """Return whether the last word of a cell is known, and not that of an end."""
    if len(sketch.writers[cell]) == 0:
        return sketch.memory[cell] != end[1][cell]
    write = last_write(sketch.writers[cell], after)
    word = None if write is None else words[sketch.given[write]]
    return word is not None and word != end[1][cell]


def takes_cell(sketch, end, paper, picked, after):
    """Return whether a tuple is a paper, or a tree, that names a cell."""
    if len(paper) != 2 or not is_between(paper[1], 0, len(end[1]) - 1):
        return False
    return wrong_cell(sketch, end, known_words(sketch, picked), after, paper[1])


def takes(sketch, end, paper, picked, after):
    """Return whether any object is a paper against an end, where some picks hold."""
    if not isinstance(paper, tuple) or len(paper) == 0 or not isinstance(paper[0], str):
        return False
    name = paper[0]
    if name == "read":
        return takes_read(takes, sketch, end, paper, picked, after)
    if name == "first":
        return takes_first(takes, sketch, end, paper, picked, after)
    if name == "ring":
        return takes_ring(sketch, paper, picked, after)
    if name == "word":
        return takes_word(sketch, end, paper, picked)
    return name == "cell" and takes_cell(sketch, end, paper, picked, after)


def size_of_ring(kind, way):
    """Return 1, 0 if the parts of a ring do not have the form."""
    return 1 if is_one_of(kind, ("behind", "own")) and are_counts(way, 2) and len(set(way)) == len(way) else 0


def size_of_leaf(paper):
    """Return 1, 0 if a tuple that begins with a string does not have the form of a ring, a word or a cell."""
    name, count = paper[0], len(paper)
    if name == "ring" and count == 3:
        return size_of_ring(paper[1], paper[2])
    if name == "word" and count == 3 or name == "cell" and count == 2:
        return 1 if are_counts(paper[1:], 1) else 0
    return 0


def size_of(paper):
    """Return the number of rings, words and cells in any object, 0 if it does not have the form of a paper."""
    return size_with(size_of_leaf, paper)
