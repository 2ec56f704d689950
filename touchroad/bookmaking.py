"""The books of programs, for programs that have been checked.

A kind of book is "plain", "sorted" or "bare". A made row is (instruction, part). The part says what the row is for its
hand: "own" if it is an action, "branch" if it is the ifzero of an if, "look" and "leave" if it is the load and the
ifzero of an await, and None if it is none of these.
"""

from touchroad.errors import TooLong
from touchroad.statements import TOUCHES, is_giving

# The instructions of the touches that have another name in books.
INSTRUCTIONS = {"get": "load", "put": "store"}


def length_of(kind, statements):
    """Return how many rows statements have."""
    return sum([length_of_one(kind, statement) for statement in statements])


def length_of_one(kind, statement):
    """Return how many rows a statement has."""
    name = statement[0]
    if name == "if":
        return 2 + length_of(kind, statement[2]) + length_of(kind, statement[3])
    if name == "again":
        return statement[1] * length_of(kind, statement[2])
    if name == "await":
        return 4
    if name == "whole":
        return 0 if kind == "bare" else 1
    return 2 if has_gap(kind, statement) else 1


def has_gap(kind, statement):
    """Return whether a statement that is neither if, again, await nor whole has a gap in a kind of book."""
    return kind == "sorted" and is_giving(statement)


def own_rows(kind, statement):
    """Return the made rows of a statement that is neither if, again nor await."""
    name = statement[0]
    if name == "whole":
        return () if kind == "bare" else ((("fence",), "own"),)
    if name not in TOUCHES:
        return ((statement, "own"),)
    row = ((INSTRUCTIONS.get(name, name),) + statement[1:-1], "own")
    return ((("gap",), None), row) if has_gap(kind, statement) else (row,)


def await_rows(statement, start):
    """Return the made rows of an await."""
    return (
        (("load", 6, statement[2], statement[3]), "look"),
        (("xor", 6, 6, statement[1]), None),
        (("ifzero", 6, start + 4), "leave"),
        (("jump", start), None),
    )


def if_rows(kind, statement, start):
    """Return the made rows of an if."""
    yes = made_rows(kind, statement[2], start + 1)
    other = start + 2 + len(yes)
    no = made_rows(kind, statement[3], other)
    return ((("ifzero", statement[1], other), "branch"),) + yes + ((("jump", other + len(no)), None),) + no


def made_rows(kind, statements, start):
    """Return the made rows of statements, the first of which gets a row with this index."""
    rows = ()
    for statement in statements:
        if statement[0] == "if":
            rows = rows + if_rows(kind, statement, start + len(rows))
        elif statement[0] == "again":
            for _ in range(statement[1]):
                rows = rows + made_rows(kind, statement[2], start + len(rows))
        elif statement[0] == "await":
            rows = rows + await_rows(statement, start + len(rows))
        else:
            rows = rows + own_rows(kind, statement)
    return rows


def check_length(kind, program):
    """Raise TooLong for the first hand whose core would have more than 40 rows."""
    for hand, statements in enumerate(program):
        if length_of(kind, statements) > 40:
            raise TooLong(hand)


def made_book(kind, program):
    """Return the tuple of the made rows of each hand of a program whose length has been checked."""
    return tuple([made_rows(kind, statements, 0) for statements in program])


def book_of(made):
    """Return the book of made rows."""
    return tuple([tuple([instruction for instruction, _ in rows]) for rows in made])
