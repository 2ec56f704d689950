"""The plain machine and the one-row machine."""

from touchroad.checks import check_book, check_memory, check_number
from touchroad.runs import stand_by_let
from touchroad.stands import after_step, after_turn, first_stand, is_ended, is_plain_let, is_stopped, is_turn, let_steps


def plain_first(book, memory):
    """Return the first stand of the plain machine."""
    check_book(book)
    check_memory(memory)
    return first_stand(book, memory)


def plain_steps(book, stand):
    """Return the list of the steps that are let, core by core, do before flush."""
    check_book(book)
    return let_steps(book, stand)


def plain_after(book, stand, step):
    """Return the stand after a step."""
    check_book(book)
    return stand_by_let(book, stand, [step], is_plain_let, after_step)


def plain_run(book, memory, steps):
    """Return the stand after a list of steps from the first stand on."""
    return stand_by_let(book, plain_first(book, memory), steps, is_plain_let, after_step)


def has_stopped(book, stand, core):
    """Return whether a core has stopped."""
    check_book(book)
    check_number(core, 0, len(book) - 1)
    return is_stopped(book[core], stand[0][core][0])


def has_ended(book, stand):
    """Return whether a stand has ended."""
    check_book(book)
    return is_ended(book, stand)


def one_row_run(book, memory, cores):
    """Return the stand to which a list of cores leads in the one-row machine."""
    return stand_by_let(book, plain_first(book, memory), cores, is_turn, after_turn)
