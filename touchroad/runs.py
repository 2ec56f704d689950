"""Lists of steps of any machine, done one after the other, for arguments that have been checked.

is_let(given, stand, step) says whether any object is a step that is let, and after(given, stand, step) returns the
stand after it. given is what the machine runs: a book, or the script of a program.
"""

from touchroad.errors import NotLet
from touchroad.stands import after_step, after_turn, end_of_stand, first_stand, is_ended, is_plain_let, is_turn
from touchroad.values import rebuilt


def stand_by(given, stand, steps, is_let, after):
    """Return the stand after any objects as steps, None if one of them is not let."""
    for step in steps:
        if not is_let(given, stand, step):
            return None
        stand = after(given, stand, step)
    return stand


def stand_by_let(given, stand, steps, is_let, after):
    """Return the stand after a list of steps; raise NotLet for the first one that is not let."""
    for step in steps:
        if not is_let(given, stand, step):
            raise NotLet(rebuilt(step))
        stand = after(given, stand, step)
    return stand


def end_by(book, memory, value, is_let, after):
    """Return the end of any object that is a run of a machine, None if it is none."""
    if not isinstance(value, list):
        return None
    stand = stand_by(book, first_stand(book, memory), value, is_let, after)
    return end_of_stand(stand) if stand is not None and is_ended(book, stand) else None


def plain_end(book, memory, value):
    """Return the end of any object that is a run of the plain machine, None if it is none."""
    return end_by(book, memory, value, is_plain_let, after_step)


def one_row_end(book, memory, value):
    """Return the end of any object that is a run of the one-row machine, None if it is none."""
    return end_by(book, memory, value, is_turn, after_turn)
