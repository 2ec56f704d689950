"""From programs to books, and from runs of the books back to the programs."""

from touchroad.behaviours import check_short_program
from touchroad.bookmaking import book_of, check_length, made_book
from touchroad.books import is_memory
from touchroad.checks import check_memory
from touchroad.errors import InvalidEnd, InvalidRun
from touchroad.outsides import (
    check_outside,
    first_outside,
    least_bars_inside,
    outside_with_reasons,
    program_end_of_end,
    shows_outside,
)
from touchroad.roadruns import trace_of, viewing_steps_of
from touchroad.runs import plain_end
from touchroad.searches import plain_moves
from touchroad.sortedstands import after_sorted_step, sorted_end
from touchroad.stands import after_step
from touchroad.tongue import check_program
from touchroad.values import are_words, is_tuple_of, rebuilt
from touchroad.viewruns import behaviour_of_steps


def made_of(kind, program):
    """Return the made rows of a kind of book of a program; raise InvalidProgram or TooLong."""
    check_program(program)
    check_length(kind, program)
    return made_book(kind, program)


def plain_book(program):
    """Return the plain book of a program."""
    return book_of(made_of("plain", program))


def sorted_book(program):
    """Return the sorted book of a program."""
    return book_of(made_of("sorted", program))


def bare_book(program):
    """Return the bare book of a program."""
    return book_of(made_of("bare", program))


def is_end_of_hands(hands, value):
    """Return whether any object is an end of a book with so many cores."""
    if not is_tuple_of(value, 2) or not is_tuple_of(value[0], hands):
        return False
    return all([are_words(registers, 8) for registers in value[0]]) and is_memory(value[1])


def end_up(program, end):
    """Return the program end that belongs to an end."""
    check_program(program)
    if not is_end_of_hands(len(program), end):
        raise InvalidEnd(rebuilt(end))
    return program_end_of_end(end)


def viewing_by(kind, program, memory, run):
    """Return a run of the viewing machine for a run of the plain or the sorted book on the machine of this name."""
    made = made_of(kind, program)
    check_memory(memory)
    end_by = plain_end if kind == "plain" else sorted_end
    if end_by(book_of(made), memory, run) is None:
        raise InvalidRun(rebuilt(run))
    return viewing_steps_of(trace_of(made, memory, run, after_step if kind == "plain" else after_sorted_step))


def viewing_of_run(program, memory, run):
    """Return a run of the viewing machine for a run of the plain machine of the plain book."""
    return viewing_by("plain", program, memory, run)


def viewing_of_sorted_run(program, memory, run):
    """Return a run of the viewing machine for a run of the sorted machine of the sorted book."""
    return viewing_by("sorted", program, memory, run)


def behaviour_of_run(program, memory, run):
    """Return the behaviour of a run of the plain machine of the plain book of a short program."""
    check_short_program(program)
    return behaviour_of_steps(program, memory, viewing_by("plain", program, memory, run))


def behaviour_of_sorted_run(program, memory, run):
    """Return the behaviour of a run of the sorted machine of the sorted book of a short program."""
    check_short_program(program)
    return behaviour_of_steps(program, memory, viewing_by("sorted", program, memory, run))


def outside(program, book, memory):
    """Return the first end of the plain machine that belongs to no consistent behaviour, None if there is none."""
    check_outside(program, book, memory)
    return first_outside(program, book, memory, plain_moves)


def outside_shown(program, book, memory):
    """Return (run, certificate) of the end that outside returns, None if there is none."""
    check_outside(program, book, memory)
    return outside_with_reasons(program, book, memory, plain_moves)


def is_outside(program, book, memory, value):
    """Return whether any object is (run, certificate) of an end that belongs to no consistent behaviour."""
    check_outside(program, book, memory)
    return shows_outside(program, book, memory, value, plain_end)


def least_wholes(program, memory):
    """Return the first places of fences in the bare book with which outside returns None."""
    check_short_program(program)
    book = bare_book(program)
    check_memory(memory)
    return least_bars_inside(program, book, memory, (0,), plain_moves)[0]
