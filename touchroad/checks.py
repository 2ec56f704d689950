"""The errors of arguments that many functions share."""

from touchroad.books import is_book, is_memory, is_plan
from touchroad.errors import InvalidBook, InvalidMemory, InvalidNumber, InvalidPlan
from touchroad.values import is_between, rebuilt


def check_plan(plan):
    """Raise InvalidPlan for any object that is no plan."""
    if not is_plan(plan):
        raise InvalidPlan(rebuilt(plan))


def check_book(book):
    """Raise InvalidBook for any object that is no book."""
    if not is_book(book):
        raise InvalidBook(rebuilt(book))


def check_memory(memory):
    """Raise InvalidMemory for any object that is no memory."""
    if not is_memory(memory):
        raise InvalidMemory(rebuilt(memory))


def check_memory_of(plan, memory):
    """Raise InvalidMemory for any object that is no memory with as many cells as the plan has."""
    if not is_memory(memory) or len(memory) != plan[0]:
        raise InvalidMemory(rebuilt(memory))


def check_number(number, low, high):
    """Raise InvalidNumber for an integer that is not from low to high."""
    if not is_between(number, low, high):
        raise InvalidNumber(rebuilt(number))
