"""Counterexamples to exchanges that are not sound, for outlines (see neighbours.py) that have been checked.

A counterexample is (program, hand, index, end), from a memory of four cells.
"""

from touchroad.behaviours import behaviour_ends, behaviour_to
from touchroad.neighbours import are_neighbours, have_different_cells, outline_of, with_two
from touchroad.scenes import Scene
from touchroad.scripts import all_paths, count_of_paths, is_short_program, walk_of
from touchroad.statements import READING, TOUCHES, WRITING, is_program_end, is_program_value, is_taking
from touchroad.values import is_between, is_tuple_of

MEMORY = (0, 0, 0, 0)
ONE = ("set", 1, 1)
WHOLE = ("whole",)


def put_to(cell, mode):
    """Return the put of the variable 1 to a cell."""
    return ("put", 1, 0, cell, mode)


def get_from(variable, cell, mode):
    """Return the get of a variable from a cell."""
    return ("get", variable, 0, cell, mode)


def touch_with(outline, variable, cell):
    """Return the touch of a cell with an outline, which writes the variable 1 and sets a variable."""
    if len(outline) == 1:
        return outline
    if outline[0] == "put":
        return put_to(cell, outline[1])
    given = (1,) if outline[0] in ("swap", "addto") else ()
    return (outline[0], variable) + given + (0, cell, outline[1])


def surroundings(one, other):
    """Return (before, after, second hand) of neighbours at the cells 0 and 1 whose exchange the second hand can see."""
    if one[0] == "whole" and other[0] == "get":
        return (put_to(0, "loose"),), (), (put_to(1, "loose"), WHOLE, get_from(2, 0, "loose"))
    if one[0] == "whole":
        return (put_to(0, "loose"),), (), (get_from(2, 1, "loose"), WHOLE, get_from(3, 0, "loose"))
    if other[0] == "whole" and one[0] == "get":
        return (), (get_from(4, 1, "loose"),), (put_to(1, "loose"), WHOLE, put_to(0, "loose"))
    if other[0] == "whole":
        return (), (get_from(4, 1, "loose"),), (put_to(1, "loose"), WHOLE, get_from(2, 0, "loose"))
    if one[0] in READING and other[0] in WRITING:
        return (), (), (get_from(2, 1, "loose"), put_to(0, "loose"))
    if is_taking(one):
        return (), (), (put_to(1, "loose"), put_to(0, "give"))
    return (), (), (get_from(2, 1, "take"), get_from(3, 0, "loose"))


def found_counterexample(one, other):
    """Return a counterexample to the exchange of neighbours with these outlines, which is not sound."""
    before, behind, second = surroundings(one, other)
    pair = (touch_with(one, 2, 0), touch_with(other, 3, 1))
    program = (ONE,) + before + pair + behind, (ONE,) + second
    index = 1 + len(before)
    ends = {end: True for end in behaviour_ends(program, MEMORY)}
    new = [end for end in behaviour_ends(with_two(program, 0, index, pair[::-1]), MEMORY) if end not in ends]
    return program, 0, index, new[0]


def has_few_touches(program):
    """Return whether a short program has at most 8 touches on any paths, and 4 that write to any one cell."""
    for paths in all_paths(program):
        actions = [action for hand, path in zip(program, paths) for action in walk_of(hand, path).actions]
        if len([action for action in actions if action[0] in TOUCHES]) > 8:
            return False
        if any([len(writers) > 4 for writers in Scene(program, MEMORY, paths).writers]):
            return False
    return True


def is_small_program(value):
    """Return whether any object is a program that a counterexample may have."""
    if not is_program_value(value) or count_of_paths(value) > 64:
        return False
    return is_short_program(value) and has_few_touches(value)


def has_pair(one, other, program, hand, index):
    """Return whether a hand has neighbours of different cells with these outlines at any object as an index."""
    own = program[hand]
    if not is_between(index, 0, len(own) - 2):
        return False
    first, second = own[index:index + 2]
    if not are_neighbours(first, second) or not have_different_cells(own, first, second, len(MEMORY)):
        return False
    return outline_of(first) == one and outline_of(second) == other


def is_counterexample(one, other, value):
    """Return whether any object is a counterexample to the exchange of neighbours with these outlines."""
    if not is_tuple_of(value, 4) or not is_small_program(value[0]):
        return False
    program, hand, index, end = value
    if not is_between(hand, 0, len(program) - 1) or not has_pair(one, other, program, hand, index):
        return False
    if not is_program_end(program, MEMORY, end) or behaviour_to(program, MEMORY, end) is not None:
        return False
    exchanged = with_two(program, hand, index, program[hand][index:index + 2][::-1])
    return behaviour_to(exchanged, MEMORY, end) is not None
