"""Races in the one-row machine, for books and memories that have been checked.

A way is (stand, late): late has for each core whether it has done a store and no fence, swap or addto after it.
"""

from touchroad.runs import stand_by
from touchroad.searches import reached_from, way_to
from touchroad.stands import ALONE, access_cell, after_turn, first_stand, is_stopped, is_turn
from touchroad.values import is_between, is_tuple_of, replaced


def first_way(book, memory):
    """Return the way at the first stand."""
    return first_stand(book, memory), tuple([False for _ in book])


def next_instruction(book, stand, core):
    """Return the next instruction of a core, None if it has stopped."""
    row = stand[0][core][0]
    return None if is_stopped(book[core], row) else book[core][row]


def after_way(book, way, core):
    """Return the way after a core did an instruction."""
    stand, late = way
    name = next_instruction(book, stand, core)[0]
    if name == "store":
        late = replaced(late, core, True)
    elif name in ALONE:
        late = replaced(late, core, False)
    return after_turn(book, stand, core), late


def access_at(book, stand, core):
    """Return (name, cell) of the access of a core at a stand, None if its next instruction is none."""
    instruction = next_instruction(book, stand, core)
    if instruction is None or instruction[0] not in ("load", "store", "swap", "addto"):
        return None
    return instruction[0], access_cell(instruction, stand[0][core][1], len(stand[1]))


def is_race(book, way, one, other, only_late):
    """Return whether two different cores have a race, or a late race, at a way."""
    stand, late = way
    first, second = access_at(book, stand, one), access_at(book, stand, other)
    if first is None or second is None or first[1] != second[1]:
        return False
    names = (first[0], second[0])
    if names == ("load", "load") or not ("load" in names or "store" in names):
        return False
    if not only_late:
        return True
    return (first[0] == "load" and late[one]) or (second[0] == "load" and late[other])


def racing_pair(book, way, only_late):
    """Return the first pair of cores that have a race at a way, None if there is none."""
    for one in range(len(book)):
        for other in range(one + 1, len(book)):
            if is_race(book, way, one, other, only_late):
                return one, other
    return None


def way_moves(book, way):
    """Return the moves of the one-row machine between ways, as searches.py describes them."""
    return [(core, after_way(book, way, core)) for core in range(len(book)) if is_way_turn(book, way, core)]


def first_race(book, memory, only_late):
    """Return (cores, core, core) of the first race, None if there is none."""
    before = reached_from(book, first_way(book, memory), way_moves)
    for way in before:
        pair = racing_pair(book, way, only_late)
        if pair is not None:
            return (way_to(before, way),) + pair
    return None


def is_way_turn(book, way, core):
    """Return whether any object is a core that can do an instruction."""
    return is_turn(book, way[0], core)


def way_after(book, memory, cores):
    """Return the way after any objects as cores, None if one of them cannot do an instruction."""
    return stand_by(book, first_way(book, memory), cores, is_way_turn, after_way)


def shows_race(book, memory, value, only_late):
    """Return whether any object is (cores, core, core) of cores that lead to a race of the other two."""
    if not is_tuple_of(value, 3) or not isinstance(value[0], list):
        return False
    cores, one, other = value
    if not is_between(one, 0, len(book) - 1) or not is_between(other, one + 1, len(book) - 1):
        return False
    way = way_after(book, memory, cores)
    return way is not None and is_race(book, way, one, other, only_late)
