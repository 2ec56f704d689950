"""Neighbours in a hand, and what may become of them, for programs that have been checked.

An outline is (name, mode) of a touch, or ("whole",). What looks at names and modes alone takes outlines and touches.
"""

from touchroad.books import SUMS
from touchroad.statements import SETTING, TOUCHES, is_giving, is_taking


def outline_of(touch):
    """Return the outline of a touch."""
    return touch[:1] + touch[-1:] if len(touch) > 1 else touch


def used_by(touch):
    """Return the tuple of the variables that a touch uses."""
    return touch[2:-2] if touch[0] in SETTING else touch[1:-2]


def set_by(statement):
    """Return the tuple of the variable that a statement which is neither if nor again sets, () if it sets none."""
    return statement[1:2] if statement[0] == "set" or statement[0] in SUMS or statement[0] in SETTING else ()


def set_in(statements):
    """Return the tuple of the variables that statements set, with those inside others."""
    found = ()
    for statement in statements:
        if statement[0] == "if":
            found = found + set_in(statement[2]) + set_in(statement[3])
        elif statement[0] == "again":
            found = found + set_in(statement[2])
        else:
            found = found + set_by(statement)
    return found


def fixed_cell(hand, touch, cells):
    """Return the cell of a touch of a hand if it is fixed, None if it is not, or if the touch is a whole."""
    if touch[0] == "whole" or touch[-3] in set_in(hand):
        return None
    return touch[-2] % cells


def are_neighbours(one, other):
    """Return whether two statements, the second one directly after the first one, are neighbours."""
    if one[0] not in TOUCHES or other[0] not in TOUCHES:
        return False
    if any([variable in used_by(other) + set_by(other) for variable in set_by(one)]):
        return False
    return not any([variable in used_by(one) for variable in set_by(other)])


def have_different_cells(hand, one, other, cells):
    """Return whether neighbours in a hand have different cells."""
    if one[0] == "whole" or other[0] == "whole":
        return one[0] != other[0]
    first, second = fixed_cell(hand, one, cells), fixed_cell(hand, other, cells)
    return first is not None and second is not None and first != second


def is_sound(one, other):
    """Return whether the exchange of neighbours of different cells with these outlines is sound.

    A whole takes and gives, so it is exchanged with nothing.
    """
    return not is_giving(other) if one[0] == "put" else not is_taking(one) and other[0] in ("get", "await")


def joined_touches(one, other):
    """Return the statements that neighbours of the same cell can be joined to, () if they cannot be joined."""
    name = one[0]
    if name == "put" and other[0] == "put":
        return (other,)
    if name not in ("put", "get", "swap", "addto") or other[0] != "get":
        return ()
    if name != "put" and is_taking(other) and not is_taking(one):
        return ()
    if name in ("put", "get"):
        return one, ("and", other[1], one[1], one[1])
    if one[1] == one[2]:
        return ()
    if name == "swap":
        return one, ("and", other[1], one[2], one[2])
    return one, ("add", other[1], one[1], one[2])


def joined_in(hand, one, other, cells):
    """Return the statements that neighbours in a hand can be joined to, () if they cannot be joined."""
    first, second = fixed_cell(hand, one, cells), fixed_cell(hand, other, cells)
    return joined_touches(one, other) if first is not None and first == second else ()


def rewrites_at(hand, index, cells):
    """Return a dict with what the statement at an index and the next one become by each rewrite, by its name."""
    one, other = hand[index:index + 2]
    if not are_neighbours(one, other):
        return {}
    if have_different_cells(hand, one, other, cells):
        return {"exchange": (other, one)} if is_sound(one, other) else {}
    joined = joined_in(hand, one, other, cells)
    return {"join": joined} if len(joined) > 0 else {}


def with_two(program, hand, index, statements):
    """Return a program with other statements in place of the one at an index of a hand and the next one."""
    own = program[hand]
    return program[:hand] + (own[:index] + statements + own[index + 2:],) + program[hand + 1:]


def all_rewrites(program, cells):
    """Return the ascending list of the tuples (rewrite, program after it)."""
    return [
        ((hand, index, name), with_two(program, hand, index, statements))
        for hand, own in enumerate(program)
        for index in range(len(own) - 1)
        for name, statements in rewrites_at(own, index, cells).items()
    ]
