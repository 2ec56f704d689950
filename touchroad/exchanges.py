"""Rewrites of programs: sound exchanges and joins, and counterexamples to other exchanges."""

from touchroad.checks import check_number
from touchroad.counterexamples import found_counterexample, is_counterexample
from touchroad.errors import InvalidMode, InvalidRewrite, TooMany
from touchroad.neighbours import all_rewrites, is_sound
from touchroad.statements import MODES
from touchroad.texts import show_program
from touchroad.tongue import check_program
from touchroad.values import is_integer, is_one_of, is_tuple_of, rebuilt


def check_program_and_cells(program, cells):
    """Raise InvalidProgram or InvalidNumber."""
    check_program(program)
    check_number(cells, 1, 32)


def can_exchange(one, other):
    """Return whether the exchange of neighbours of different cells with the names and modes of two touches is sound."""
    return is_sound(one, other)


def rewrites(program, cells):
    """Return the ascending list of the rewrites (hand, index, name) of a program."""
    check_program_and_cells(program, cells)
    return [rewrite for rewrite, _ in all_rewrites(program, cells)]


def is_like_rewrite(value):
    """Return whether any object is a tuple of two integers and a string."""
    return is_tuple_of(value, 3) and is_integer(value[0]) and is_integer(value[1]) and isinstance(value[2], str)


def rewritten(program, cells, rewrite):
    """Return the program after a rewrite."""
    check_program_and_cells(program, cells)
    if is_like_rewrite(rewrite):
        for other, after in all_rewrites(program, cells):
            if other == rewrite:
                return after
    raise InvalidRewrite(rebuilt(rewrite))


def all_rewritten(program, cells, most):
    """Return the list of all programs that result from any number of rewrites, by their texts."""
    check_program_and_cells(program, cells)
    check_number(most, 1, 500)
    found = {show_program(program): program}
    waiting = [program]
    while len(waiting) > 0:
        before = waiting.pop()
        for _, after in all_rewrites(before, cells):
            text = show_program(after)
            if text not in found:
                found[text] = after
                waiting.append(after)
            if len(found) > most:
                raise TooMany(most)
    return [found[text] for text in sorted(found)]


def is_outline(value):
    """Return whether any object is (name, mode) of a get, put, swap or addto, or ("whole",)."""
    if is_tuple_of(value, 1):
        return is_one_of(value[0], ("whole",))
    if not is_tuple_of(value, 2) or not is_one_of(value[0], ("get", "put", "swap", "addto")):
        return False
    return is_one_of(value[1], MODES[value[0]])


def check_outlines(one, other):
    """Raise InvalidMode of the first object that is no outline, or of the second one if both are wholes."""
    if not is_outline(one):
        raise InvalidMode(rebuilt(one))
    if not is_outline(other) or len(one) == 1 and len(other) == 1:
        raise InvalidMode(rebuilt(other))


def counterexample(one, other):
    """Return (program, hand, index, end) that shows that an exchange is not sound, None if it is."""
    check_outlines(one, other)
    return None if is_sound(one, other) else found_counterexample(one, other)


def counterexample_holds(one, other, value):
    """Return whether any object is (program, hand, index, end) that shows that an exchange is not sound."""
    check_outlines(one, other)
    return is_counterexample(one, other, value)
