"""The checker of papers and their size, for ends and sketches that have been checked.

The checker walks a paper with the picks that hold, picked and after, as rings.py describes them.
"""

from touchroad.choices import sources_for
from touchroad.rings import behind_order, own_behind_order
from touchroad.sketches import known_words
from touchroad.values import is_between, is_integer, is_one_of, is_tuple_of


def with_source(picked, event, source):
    """Return picks with a source more."""
    return {**picked, event: source}


def with_first(after, event, later):
    """Return picks with a pair of writes more."""
    return [mask | 1 << later if at == event else mask for at, mask in enumerate(after)]


def is_event(sketch, value):
    """Return whether any object is an event."""
    return is_between(value, 0, len(sketch.events) - 1)


def are_at_one_cell(sketch, one, other):
    """Return whether two events are different ones that write to one cell."""
    if one == other or sketch.given[one] is None or sketch.given[other] is None:
        return False
    return sketch.events[one][3] == sketch.events[other][3]


def takes_read(sketch, end, paper, picked, after):
    """Return whether a tuple is a paper that picks a source."""
    if len(paper) != 3 or not is_event(sketch, paper[1]) or sketch.taken[paper[1]] is None:
        return False
    event, parts = paper[1], paper[2]
    if event in picked:
        return False
    sources = sources_for(sketch, event)
    if not is_tuple_of(parts, len(sources)) or not all([is_tuple_of(part, 2) for part in parts]):
        return False
    for source, part in zip(sources, parts):
        if not is_integer(part[0]) or part[0] != source:
            return False
        if not takes(sketch, end, part[1], with_source(picked, event, source), after):
            return False
    return True


def takes_first(sketch, end, paper, picked, after):
    """Return whether a tuple is a paper that orders two writes."""
    if len(paper) != 5 or not is_event(sketch, paper[1]) or not is_event(sketch, paper[2]):
        return False
    one, other = paper[1], paper[2]
    if not are_at_one_cell(sketch, one, other) or after[one] >> other & 1 or after[other] >> one & 1:
        return False
    if not takes(sketch, end, paper[3], picked, with_first(after, one, other)):
        return False
    return takes(sketch, end, paper[4], picked, with_first(after, other, one))


def takes_ring(sketch, paper, picked, after):
    """Return whether a tuple is a paper that names a ring."""
    if len(paper) != 3 or not is_one_of(paper[1], ("behind", "own")) or not isinstance(paper[2], tuple):
        return False
    way = paper[2]
    if len(way) < 2 or not all([is_event(sketch, event) for event in way]) or len(set(way)) < len(way):
        return False
    order = behind_order(sketch, picked, after) if paper[1] == "behind" else own_behind_order(sketch, picked, after)
    return all([order[event] >> later & 1 for event, later in zip(way, way[1:] + way[:1])])


def wrong_word(sketch, end, words, core, register):
    """Return whether the last word of a register is known, and not that of an end."""
    word = words[sketch.last[core][register]]
    return word is not None and word != end[0][core][register]


def takes_word(sketch, end, paper, picked):
    """Return whether a tuple is a paper that names a register."""
    if len(paper) != 3 or not is_between(paper[1], 0, len(end[0]) - 1) or not is_between(paper[2], 0, 7):
        return False
    return wrong_word(sketch, end, known_words(sketch, picked), paper[1], paper[2])


def last_write(writers, after):
    """Return the write that is ordered before no other one and to which all others lead, None if there is none."""
    ends = [write for write in writers if after[write] == 0]
    if len(ends) != 1:
        return None
    leading = 1 << ends[0]
    growing = True
    while growing:
        more = sum([1 << write for write in writers if not leading >> write & 1 and after[write] & leading])
        leading |= more
        growing = more > 0
    return ends[0] if all([leading >> write & 1 for write in writers]) else None


def wrong_cell(sketch, end, words, after, cell):
    """Return whether the last word of a cell is known, and not that of an end."""
    if len(sketch.writers[cell]) == 0:
        return sketch.memory[cell] != end[1][cell]
    write = last_write(sketch.writers[cell], after)
    word = None if write is None else words[sketch.given[write]]
    return word is not None and word != end[1][cell]


def takes_cell(sketch, end, paper, picked, after):
    """Return whether a tuple is a paper that names a cell."""
    if len(paper) != 2 or not is_between(paper[1], 0, len(sketch.memory) - 1):
        return False
    return wrong_cell(sketch, end, known_words(sketch, picked), after, paper[1])


def takes(sketch, end, paper, picked, after):
    """Return whether any object is a paper against an end, where some picks hold."""
    if not isinstance(paper, tuple) or len(paper) == 0 or not isinstance(paper[0], str):
        return False
    name = paper[0]
    if name == "read":
        return takes_read(sketch, end, paper, picked, after)
    if name == "first":
        return takes_first(sketch, end, paper, picked, after)
    if name == "ring":
        return takes_ring(sketch, paper, picked, after)
    if name == "word":
        return takes_word(sketch, end, paper, picked)
    return name == "cell" and takes_cell(sketch, end, paper, picked, after)


def is_count(value):
    """Return whether any object is an integer from 0 on."""
    return is_integer(value) and value >= 0


def size_of_parts(parts):
    """Return the size of the parts of a read, 0 if they do not have the form."""
    if not isinstance(parts, tuple) or len(parts) == 0 or not all([is_tuple_of(part, 2) for part in parts]):
        return 0
    sources = [part[0] for part in parts]
    if not all([is_integer(source) for source in sources]) or sources[0] != -1:
        return 0
    if not all([one < other for one, other in zip(sources, sources[1:])]):
        return 0
    return size_of_all([part[1] for part in parts])


def size_of_all(papers):
    """Return the size of a list of papers together, 0 if one of them does not have the form."""
    sizes = [size_of(paper) for paper in papers]
    return 0 if 0 in sizes else sum(sizes)


def size_of_ring(kind, way):
    """Return 1, 0 if the parts of a ring do not have the form."""
    if not is_one_of(kind, ("behind", "own")) or not isinstance(way, tuple) or len(way) < 2:
        return 0
    return 1 if all([is_count(event) for event in way]) and len(set(way)) == len(way) else 0


def size_of(paper):
    """Return the number of rings, words and cells in any object, 0 if it does not have the form of a paper."""
    if not isinstance(paper, tuple) or not 2 <= len(paper) <= 5 or not isinstance(paper[0], str):
        return 0
    name, count = paper[0], len(paper)
    if name == "ring" and count == 3:
        return size_of_ring(paper[1], paper[2])
    if name == "word" and count == 3:
        return 1 if is_count(paper[1]) and is_count(paper[2]) else 0
    if name == "cell" and count == 2:
        return 1 if is_count(paper[1]) else 0
    if name == "read" and count == 3 and is_count(paper[1]):
        return size_of_parts(paper[2])
    if name != "first" or count != 5 or not is_count(paper[1]) or not is_count(paper[2]) or paper[1] == paper[2]:
        return 0
    return size_of_all([paper[3], paper[4]])
