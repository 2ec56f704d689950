"""The one-row machine, the plain machine and the sorted machine compared, and where gaps are needed."""

from touchroad.barneeds import needed_for_ends
from touchroad.checks import check_book
from touchroad.ends import check_book_and_memory
from touchroad.errors import InvalidMachine
from touchroad.forall import first_choice_between, least_bars_for_all
from touchroad.leastbars import least_bars_by
from touchroad.places import barred_book, check_places, no_places
from touchroad.searches import ends_by, one_row_moves, plain_moves
from touchroad.sortedstands import sorted_moves
from touchroad.values import is_one_of, rebuilt

MACHINES = ("one row", "plain", "sorted")


def check_machine(machine):
    """Raise InvalidMachine for any object that is not a machine."""
    if not is_one_of(machine, MACHINES):
        raise InvalidMachine(rebuilt(machine))


def moves_of(machine):
    """Return the moves of a machine, as searches.py describes them."""
    if machine == "one row":
        return one_row_moves
    return plain_moves if machine == "plain" else sorted_moves


def ends_of(machine, book, memory):
    """Return the ascending list of the ends of a machine."""
    check_machine(machine)
    check_book_and_memory(book, memory)
    return ends_by(book, memory, moves_of(machine))


def parting(one, other, book, memory):
    """Return (end, machine): the first end that exactly one machine has, and that machine; None if there is none."""
    check_machine(one)
    check_machine(other)
    check_book_and_memory(book, memory)
    of_one = {end: True for end in ends_by(book, memory, moves_of(one))}
    of_other = {end: True for end in ends_by(book, memory, moves_of(other))}
    alone = [(end, one) for end in of_one if end not in of_other]
    alone.extend([(end, other) for end in of_other if end not in of_one])
    return min(alone) if len(alone) > 0 else None


def gapped(book, places):
    """Return the book with a gap before each of these rows."""
    check_book(book)
    check_places(book, places)
    return barred_book(book, (no_places(book), places))


def barred(book, fences, gaps):
    """Return the book with a fence or a gap before each of these rows, the gap first."""
    check_book(book)
    check_places(book, fences)
    check_places(book, gaps)
    return barred_book(book, (fences, gaps))


def least_bars_to(book, memory, kinds, machine):
    """Return the first (fences, gaps) of these kinds with which the sorted machine has only ends of a machine."""
    check_book_and_memory(book, memory)
    allowed = {end: True for end in ends_by(book, memory, moves_of(machine))}
    return least_bars_by(book, kinds, (memory, sorted_moves, allowed), needed_for_ends)


def least_gaps(book, memory):
    """Return the first places of gaps with which each end of the sorted machine is one of the plain machine."""
    return least_bars_to(book, memory, (1,), "plain")[1]


def least_bars(book, memory):
    """Return the first (fences, gaps) with which each end of the sorted machine is one of the one-row machine."""
    return least_bars_to(book, memory, (0, 1), "one row")


def plain_for_all(book, cells):
    """Return whether each choice without a ring in the sorted order is without a ring."""
    return bad_sorted_choice(book, cells) is None


def bad_sorted_choice(book, cells):
    """Return the first choice that has a ring, but none in the sorted order; None if there is none."""
    return first_choice_between(book, cells, "sorted", "plain")


def least_gaps_for_all(book, cells):
    """Return the first places of gaps with which plain_for_all holds."""
    return least_bars_for_all(book, cells, "sorted", "plain")[1]
