"""The ends of a book."""

from touchroad.checks import check_book, check_memory, check_number
from touchroad.errors import InvalidEnd
from touchroad.runs import one_row_end, plain_end
from touchroad.searches import ends_by, is_end, is_stuck_somewhere, one_row_moves, plain_moves, run_by_moves
from touchroad.values import rebuilt


def check_book_and_memory(book, memory):
    """Raise InvalidBook or InvalidMemory."""
    check_book(book)
    check_memory(memory)


def check_end(book, memory, end):
    """Raise InvalidBook, InvalidMemory or InvalidEnd."""
    check_book_and_memory(book, memory)
    if not is_end(book, memory, end):
        raise InvalidEnd(rebuilt(end))


def ends(book, memory):
    """Return the ascending list of all ends of the plain machine."""
    check_book_and_memory(book, memory)
    return ends_by(book, memory, plain_moves)


def run_to(book, memory, end):
    """Return a run of the plain machine that leads to an end, None if there is none."""
    check_end(book, memory, end)
    return run_by_moves(book, memory, end, plain_moves)


def run_leads(book, memory, end, value):
    """Return whether any object is a run of the plain machine that leads to an end."""
    check_end(book, memory, end)
    return plain_end(book, memory, value) == end


def one_row_ends(book, memory):
    """Return the ascending list of all ends of the one-row machine."""
    check_book_and_memory(book, memory)
    return ends_by(book, memory, one_row_moves)


def one_row_run_to(book, memory, end):
    """Return a run of the one-row machine that leads to an end, None if there is none."""
    check_end(book, memory, end)
    return run_by_moves(book, memory, end, one_row_moves)


def one_row_run_leads(book, memory, end, value):
    """Return whether any object is a run of the one-row machine that leads to an end."""
    check_end(book, memory, end)
    return one_row_end(book, memory, value) == end


def late_end(book, memory):
    """Return the first end that only the plain machine has, None if there is none."""
    others = {end: True for end in one_row_ends(book, memory)}
    for end in ends_by(book, memory, plain_moves):
        if end not in others:
            return end
    return None


def always(book, memory, core, number):
    """Return the ascending list of the words of a register at the ends of the plain machine."""
    check_book_and_memory(book, memory)
    check_number(core, 0, len(book) - 1)
    check_number(number, 0, 7)
    return sorted({end[0][core][number] for end in ends_by(book, memory, plain_moves)})


def never_ends(book, memory):
    """Return whether steps lead to a stand of the plain machine from which no end can be reached."""
    check_book_and_memory(book, memory)
    return is_stuck_somewhere(book, memory)
