"""Ends of books that no consistent behaviour of a program has, for books that run short programs.

moves(book, stand) is as in searches.py; end_by(book, memory, value) returns the end of any object that is a run of the
machine, None if it is none.
"""

from touchroad.barneeds import needed_for_ends
from touchroad.behaviours import behaviour_ends, check_short_program
from touchroad.books import is_book
from touchroad.certificates import certifies, decide
from touchroad.checks import check_memory
from touchroad.errors import InvalidBook
from touchroad.leastbars import least_bars_by
from touchroad.searches import ends_by, run_by_moves
from touchroad.values import is_tuple_of, rebuilt


def program_end_of_end(end):
    """Return the program end that belongs to an end."""
    return tuple([registers[:6] for registers in end[0]]), end[1]


def check_outside(program, book, memory):
    """Raise InvalidProgram, NotShort, InvalidBook or InvalidMemory."""
    check_short_program(program)
    if not is_book(book) or len(book) != len(program):
        raise InvalidBook(rebuilt(book))
    check_memory(memory)


def ends_inside(program, book, memory, moves):
    """Return a dict that has, for each end of a book, whether a consistent behaviour has the end that belongs to it."""
    allowed = {end: True for end in behaviour_ends(program, memory)}
    return {end: program_end_of_end(end) in allowed for end in ends_by(book, memory, moves)}


def first_outside(program, book, memory, moves):
    """Return the first end that belongs to no consistent behaviour, None if there is none."""
    inside = ends_inside(program, book, memory, moves)
    for end in inside:
        if not inside[end]:
            return end
    return None


def outside_with_reasons(program, book, memory, moves):
    """Return (run, certificate) of the first end that belongs to no consistent behaviour, None if there is none."""
    end = first_outside(program, book, memory, moves)
    if end is None:
        return None
    return run_by_moves(book, memory, end, moves), decide(program, memory, program_end_of_end(end))[1]


def shows_outside(program, book, memory, value, end_by):
    """Return whether any object is (run, certificate) of a run and a certificate against what belongs to its end."""
    if not is_tuple_of(value, 2):
        return False
    end = end_by(book, memory, value[0])
    return end is not None and certifies(program, memory, program_end_of_end(end), value[1])


def least_bars_inside(program, book, memory, kinds, moves):
    """Return the first (fences, gaps) of these kinds with which each end belongs to a consistent behaviour.

    Bars only take ends away, so the allowed ends are among those of the book without them.
    """
    inside = ends_inside(program, book, memory, moves)
    allowed = {end: True for end in inside if inside[end]}
    return least_bars_by(book, kinds, (memory, moves, allowed), needed_for_ends)
