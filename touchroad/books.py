"""Instructions, books, plans and memories."""

from touchroad.values import are_words, is_between

# The parts of each instruction behind its name: r is a register, w a word, t a row.
PARTS = {
    "set": "rw",
    "add": "rrr",
    "sub": "rrr",
    "and": "rrr",
    "xor": "rrr",
    "below": "rrr",
    "load": "rrw",
    "store": "rrw",
    "swap": "rrrw",
    "addto": "rrrw",
    "fence": "",
    "gap": "",
    "ifzero": "rt",
    "jump": "t",
    "stop": "",
}

# The positions of the registers that an instruction reads; all other instructions read none.
READ_AT = {
    "add": (2, 3),
    "sub": (2, 3),
    "and": (2, 3),
    "xor": (2, 3),
    "below": (2, 3),
    "load": (2,),
    "store": (1, 2),
    "swap": (2, 3),
    "addto": (2, 3),
    "ifzero": (1,),
}

SUMS = ("add", "sub", "and", "xor", "below")

WRITERS = ("set", "add", "sub", "and", "xor", "below", "load", "swap", "addto")

LARGEST = {"r": 7, "w": 65535}


def is_instruction(value, rows):
    """Return whether any object is an instruction in which each t is at most rows."""
    if not isinstance(value, tuple) or len(value) == 0:
        return False
    if not isinstance(value[0], str) or value[0] not in PARTS:
        return False
    kinds = PARTS[value[0]]
    if len(value) != len(kinds) + 1:
        return False
    return all([is_between(part, 0, LARGEST.get(kind, rows)) for part, kind in zip(value[1:], kinds)])


def are_rows(value):
    """Return whether any object is the rows of a core."""
    if not isinstance(value, tuple) or len(value) > 40:
        return False
    return all([is_instruction(instruction, len(value)) for instruction in value])


def is_book(value):
    """Return whether any object is a book."""
    return isinstance(value, tuple) and 1 <= len(value) <= 4 and all([are_rows(rows) for rows in value])


def is_plan(value):
    """Return whether any object is a plan."""
    if not isinstance(value, tuple) or len(value) != 5:
        return False
    cells, line, room, late, ahead = value
    if not is_between(cells, 1, 32) or not is_between(line, 1, 4) or line == 3:
        return False
    if cells % line != 0:
        return False
    return is_between(room, 1, 4) and is_between(late, 1, 4) and is_between(ahead, 1, 6)


def is_memory(value):
    """Return whether any object is a memory."""
    return isinstance(value, tuple) and 1 <= len(value) <= 32 and are_words(value, len(value))


def reads(instruction):
    """Return the tuple of the registers that an instruction reads."""
    return tuple([instruction[at] for at in READ_AT.get(instruction[0], ())])


def writes(instruction):
    """Return the register that an instruction writes, None if it writes none."""
    return instruction[1] if instruction[0] in WRITERS else None


def cell_of(cells, base, offset):
    """Return the cell that a word and an offset name."""
    return (base + offset) % cells


def result(instruction, words):
    """Return the word that a set or a sum gives to its register; words are those of reads(instruction)."""
    name = instruction[0]
    if name == "set":
        return instruction[2]
    one, other = words
    if name == "add":
        return (one + other) % 65536
    if name == "sub":
        return (one - other) % 65536
    if name == "and":
        return one & other
    if name == "xor":
        return one ^ other
    return 1 if one < other else 0
