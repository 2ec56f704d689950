"""Where fences are needed."""

from touchroad.barneeds import needed_for_ends
from touchroad.checks import check_book
from touchroad.ends import late_end, one_row_ends
from touchroad.forall import first_choice_between, least_bars_for_all
from touchroad.leastbars import least_bars_by
from touchroad.places import barred_book, check_places, no_places
from touchroad.searches import plain_moves


def fenced(book, places):
    """Return the book with a fence before each of these rows."""
    check_book(book)
    check_places(book, places)
    return barred_book(book, (places, no_places(book)))


def as_one_row(book, memory):
    """Return whether the plain machine has no other ends than the one-row machine."""
    return late_end(book, memory) is None


def least_fences(book, memory):
    """Return the first places of fences with which as_one_row holds."""
    allowed = {end: True for end in one_row_ends(book, memory)}
    return least_bars_by(book, (0,), (memory, plain_moves, allowed), needed_for_ends)[0]


def one_row_for_all(book, cells):
    """Return whether each choice without a ring stays so if all pairs of events of one core are kept."""
    return bad_choice(book, cells) is None


def bad_choice(book, cells):
    """Return the first choice that is without a ring, but not if all pairs are kept; None if there is none."""
    return first_choice_between(book, cells, "plain", "one row")


def least_for_all(book, cells):
    """Return the first places of fences with which one_row_for_all holds."""
    return least_bars_for_all(book, cells, "plain", "one row")[0]
