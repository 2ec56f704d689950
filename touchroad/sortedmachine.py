"""The sorted machine."""

from touchroad.checks import check_book, check_memory
from touchroad.ends import check_book_and_memory, check_end
from touchroad.runs import stand_by_let
from touchroad.searches import ends_by, run_by_moves
from touchroad.sortedstands import after_sorted_step, is_sorted_let, let_sorted_steps, sorted_end, sorted_moves
from touchroad.stands import first_stand, is_ended


def sorted_first(book, memory):
    """Return the first stand."""
    check_book(book)
    check_memory(memory)
    return first_stand(book, memory)


def sorted_steps(book, stand):
    """Return the list of the steps that are let, core by core, do before the flushes."""
    check_book(book)
    return let_sorted_steps(book, stand)


def sorted_after(book, stand, step):
    """Return the stand after a step."""
    check_book(book)
    return stand_by_let(book, stand, [step], is_sorted_let, after_sorted_step)


def sorted_run(book, memory, steps):
    """Return the stand after a list of steps from the first stand on."""
    return stand_by_let(book, sorted_first(book, memory), steps, is_sorted_let, after_sorted_step)


def sorted_ended(book, stand):
    """Return whether a stand has ended."""
    check_book(book)
    return is_ended(book, stand)


def sorted_ends(book, memory):
    """Return the ascending list of all ends."""
    check_book_and_memory(book, memory)
    return ends_by(book, memory, sorted_moves)


def sorted_run_to(book, memory, end):
    """Return a run that leads to an end, None if there is none."""
    check_end(book, memory, end)
    return run_by_moves(book, memory, end, sorted_moves)


def sorted_run_leads(book, memory, end, value):
    """Return whether any object is a run that leads to an end."""
    check_end(book, memory, end)
    return sorted_end(book, memory, value) == end
