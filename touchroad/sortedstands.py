"""What the sorted machine does, for arguments that have been checked.

A stand is that of the plain machine, except that among the late stores there are marks, each None.
"""

from touchroad.runs import end_by
from touchroad.stands import after_do, can_do
from touchroad.values import is_between, replaced


def free_cells(stores):
    """Return the ascending list of the cells whose first late store has no mark before it."""
    cells = {}
    for store in stores:
        if store is None:
            break
        cells[store[0]] = True
    return sorted(cells)


def place_of(stores, cell):
    """Return the index of the first late store of a cell."""
    return [store is not None and store[0] == cell for store in stores].index(True)


def without_store(stores, at):
    """Return late stores and marks without the store at an index and without marks at the beginning."""
    left = stores[:at] + stores[at + 1:]
    while len(left) > 0 and left[0] is None:
        left = left[1:]
    return left


def after_sorted_do(book, stand, core):
    """Return the stand after a core did its next instruction."""
    row, registers, stores = stand[0][core]
    if book[core][row][0] == "gap" and len(stores) > 0 and stores[-1] is not None:
        return replaced(stand[0], core, (row + 1, registers, stores + (None,))), stand[1]
    return after_do(book, stand, core)


def after_sorted_flush(stand, core, cell):
    """Return the stand after a core wrote its first late store of a cell."""
    cores, memory = stand
    row, registers, stores = cores[core]
    at = place_of(stores, cell)
    left = without_store(stores, at)
    return replaced(cores, core, (row, registers, left)), replaced(memory, cell, stores[at][1])


def let_sorted_steps(book, stand):
    """Return the list of the steps that are let."""
    steps = []
    for core in range(len(book)):
        if can_do(book, stand, core):
            steps.append(("do", core))
        steps.extend([("flush", core, cell) for cell in free_cells(stand[0][core][2])])
    return steps


def is_sorted_let(book, stand, step):
    """Return whether any object is a step that is let."""
    if not isinstance(step, tuple) or not 2 <= len(step) <= 3 or not isinstance(step[0], str):
        return False
    if not is_between(step[1], 0, len(book) - 1):
        return False
    if len(step) == 2:
        return step[0] == "do" and can_do(book, stand, step[1])
    if step[0] != "flush" or not is_between(step[2], 0, len(stand[1]) - 1):
        return False
    return step[2] in free_cells(stand[0][step[1]][2])


def after_sorted_step(book, stand, step):
    """Return the stand after a step that is let."""
    if step[0] == "do":
        return after_sorted_do(book, stand, step[1])
    return after_sorted_flush(stand, step[1], step[2])


def sorted_moves(book, stand):
    """Return the moves of the sorted machine, as searches.py describes them."""
    return [(step, after_sorted_step(book, stand, step)) for step in let_sorted_steps(book, stand)]


def sorted_end(book, memory, value):
    """Return the end of any object that is a run of the sorted machine, None if it is none."""
    return end_by(book, memory, value, is_sorted_let, after_sorted_step)
