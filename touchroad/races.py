"""Races and late races."""

from touchroad.ends import check_book_and_memory
from touchroad.raceways import first_race, shows_race


def race(book, memory):
    """Return (cores, core, core) of the first race, None if there is none."""
    check_book_and_memory(book, memory)
    return first_race(book, memory, False)


def late_race(book, memory):
    """Return (cores, core, core) of the first late race, None if there is none."""
    check_book_and_memory(book, memory)
    return first_race(book, memory, True)


def race_shown(book, memory, value):
    """Return whether any object is (cores, core, core) of cores that lead to a race of the other two."""
    check_book_and_memory(book, memory)
    return shows_race(book, memory, value, False)


def late_race_shown(book, memory, value):
    """Return whether any object is (cores, core, core) of cores that lead to a late race of the other two."""
    check_book_and_memory(book, memory)
    return shows_race(book, memory, value, True)
