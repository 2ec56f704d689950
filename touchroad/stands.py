"""What the plain machine and the one-row machine do, for arguments that have been checked.

A plain stand is (cores, memory); a core is (row, registers, stores).
"""

from touchroad.books import SUMS, cell_of, reads, result
from touchroad.values import is_between, is_tuple_of, replaced

ZEROS = (0, 0, 0, 0, 0, 0, 0, 0)
ALONE = ("fence", "swap", "addto")


def first_stand(book, memory):
    """Return the first stand."""
    return tuple([(0, ZEROS, ()) for _ in book]), memory


def is_stopped(rows, row):
    """Return whether a core at a row has stopped."""
    return row == len(rows) or rows[row][0] == "stop"


def is_ended(book, stand):
    """Return whether a stand has ended."""
    return all([is_stopped(rows, core[0]) and len(core[2]) == 0 for rows, core in zip(book, stand[0])])


def end_of_stand(stand):
    """Return the end of a stand that has ended."""
    return tuple([core[1] for core in stand[0]]), stand[1]


def access_cell(instruction, registers, cells):
    """Return the cell of a load, store, swap or addto; its register and its offset stand last."""
    return cell_of(cells, registers[instruction[-2]], instruction[-1])


def changed_word(instruction, old, given):
    """Return the word that a swap or an addto gives to a cell whose word is old; given is b's word."""
    return given if instruction[0] == "swap" else (old + given) % 65536


def row_after(instruction, row, registers):
    """Return the row to which a core goes on from an instruction at a row."""
    if instruction[0] == "jump":
        return instruction[1]
    if instruction[0] == "ifzero" and registers[instruction[1]] == 0:
        return instruction[2]
    return row + 1


def loaded_word(stores, memory, cell):
    """Return the word that a load of a cell takes; the sorted machine has marks, each None, among the late stores."""
    for store in reversed(stores):
        if store is not None and store[0] == cell:
            return store[1]
    return memory[cell]


def can_do(book, stand, core):
    """Return whether a core can do its next instruction."""
    row, _, stores = stand[0][core]
    if is_stopped(book[core], row):
        return False
    return len(stores) == 0 or book[core][row][0] not in ALONE


def can_flush(stand, core):
    """Return whether a core has late stores."""
    return len(stand[0][core][2]) > 0


def after_do(book, stand, core):
    """Return the stand after a core did its next instruction."""
    cores, memory = stand
    row, registers, stores = cores[core]
    instruction = book[core][row]
    name = instruction[0]
    following = row_after(instruction, row, registers)
    if name == "set" or name in SUMS:
        word = result(instruction, tuple([registers[number] for number in reads(instruction)]))
        registers = replaced(registers, instruction[1], word)
    elif name in ("load", "store", "swap", "addto"):
        cell = access_cell(instruction, registers, len(memory))
        if name == "store":
            stores = stores + ((cell, registers[instruction[1]]),)
        elif name == "load":
            registers = replaced(registers, instruction[1], loaded_word(stores, memory, cell))
        else:
            old = memory[cell]
            memory = replaced(memory, cell, changed_word(instruction, old, registers[instruction[2]]))
            registers = replaced(registers, instruction[1], old)
    return replaced(cores, core, (following, registers, stores)), memory


def after_flush(stand, core):
    """Return the stand after a core wrote its oldest late store."""
    cores, memory = stand
    row, registers, stores = cores[core]
    cell, word = stores[0]
    return replaced(cores, core, (row, registers, stores[1:])), replaced(memory, cell, word)


def let_steps(book, stand):
    """Return the list of the steps that are let."""
    steps = []
    for core in range(len(book)):
        if can_do(book, stand, core):
            steps.append(("do", core))
        if can_flush(stand, core):
            steps.append(("flush", core))
    return steps


def is_plain_let(book, stand, step):
    """Return whether any object is a step that is let."""
    if not is_tuple_of(step, 2) or not isinstance(step[0], str) or not is_between(step[1], 0, len(book) - 1):
        return False
    if step[0] == "do":
        return can_do(book, stand, step[1])
    return step[0] == "flush" and can_flush(stand, step[1])


def after_step(book, stand, step):
    """Return the stand after a step that is let."""
    return after_do(book, stand, step[1]) if step[0] == "do" else after_flush(stand, step[1])


def is_turn(book, stand, core):
    """Return whether any object is a core that can do an instruction in the one-row machine."""
    return is_between(core, 0, len(book) - 1) and not is_stopped(book[core], stand[0][core][0])


def after_turn(book, stand, core):
    """Return the stand after an instruction of the one-row machine, in which no store is late."""
    stand = after_do(book, stand, core)
    return after_flush(stand, core) if can_flush(stand, core) else stand
