"""Calls on shared objects: histories, linearizations, refutations and faults."""

from touchroad.cellcalls import calls_of_cell
from touchroad.checks import check_number
from touchroad.ends import check_book_and_memory
from touchroad.errors import (
    InvalidHistory,
    InvalidKind,
    InvalidLinearization,
    InvalidNumber,
    InvalidRun,
    NotDistinct,
    NotPlainCell,
)
from touchroad.faults import (
    fault_of_queue,
    fault_of_register,
    is_distinct,
    shows_fault_of_queue,
    shows_fault_of_register,
)
from touchroad.linearizing import (
    Count,
    is_linearization,
    is_refutation,
    linearization_with,
    number_below,
    refutation_of,
)
from touchroad.objects import first_state, is_history_value, is_kind, state_by_call
from touchroad.runs import plain_end
from touchroad.values import is_integer, rebuilt


def check_kind(kind):
    """Raise InvalidKind for any object that is no kind."""
    if not is_kind(kind):
        raise InvalidKind(rebuilt(kind))


def check_history(kind, history):
    """Raise InvalidKind, or InvalidHistory for any object that is no history of the kind."""
    check_kind(kind)
    if not is_history_value(kind, history):
        raise InvalidHistory(rebuilt(history))


def check_distinct(kind, history):
    """Raise InvalidHistory, or NotDistinct for a history that is not distinct."""
    check_history(kind, history)
    if not is_distinct(kind, history):
        raise NotDistinct(rebuilt(history))


def is_history(kind, value):
    """Return whether any object is a history of a kind."""
    check_kind(kind)
    return is_history_value(kind, value)


def initial_state(kind):
    """Return the initial state of a kind."""
    check_kind(kind)
    return first_state(kind)


def state_after(kind, state, call):
    """Return (state,) with the state after a call, () if the call is not possible in the state."""
    check_kind(kind)
    return state_by_call(kind, state, call)


def linearized(kind, history):
    """Return ("linearization", linearization) if there is one, otherwise ("refutation", refutation)."""
    check_history(kind, history)
    count = Count(kind, history)
    found = linearization_with(count, len(history), 0)
    if found is None:
        return ("refutation", refutation_of(count, len(history)))
    return ("linearization", found)


def linearization_holds(kind, history, value):
    """Return whether any object is a linearization of a history."""
    check_history(kind, history)
    return is_linearization(kind, history, value)


def refutation_holds(kind, history, value):
    """Return whether any object is a refutation of a history."""
    check_history(kind, history)
    return is_refutation(kind, history, value)


def linearizations(kind, history):
    """Return the number of the linearizations of a history."""
    check_history(kind, history)
    count = Count(kind, history)
    return count.ways[count.start]


def linearization_at(kind, history, number):
    """Return the linearization with an index in their ascending sequence, None if there are not so many."""
    check_history(kind, history)
    if not is_integer(number) or number < 0:
        raise InvalidNumber(rebuilt(number))
    return linearization_with(Count(kind, history), len(history), number)


def linearization_place(kind, history, linearization):
    """Return how many linearizations are less than a given one."""
    check_history(kind, history)
    if not is_linearization(kind, history, linearization):
        raise InvalidLinearization(rebuilt(linearization))
    return number_below(Count(kind, history), linearization)


def queue_fault(history):
    """Return a fault of a distinct history of a queue, None if there is none."""
    check_distinct("queue", history)
    return fault_of_queue(history)


def queue_fault_holds(history, value):
    """Return whether any object is a fault of a distinct history of a queue."""
    check_distinct("queue", history)
    return shows_fault_of_queue(history, value)


def register_fault(history):
    """Return a fault of a distinct history of a register, None if there is none."""
    check_distinct("register", history)
    return fault_of_register(history)


def register_fault_holds(history, value):
    """Return whether any object is a fault of a distinct history of a register."""
    check_distinct("register", history)
    return shows_fault_of_register(history, value)


def history_of_run(book, memory, run, cell):
    """Return the history of a register that the loads and stores of a cell make in a run of the plain machine."""
    check_book_and_memory(book, memory)
    if plain_end(book, memory, run) is None:
        raise InvalidRun(rebuilt(run))
    check_number(cell, 0, len(memory) - 1)
    history = calls_of_cell(book, memory, run, cell)
    if history is None:
        raise NotPlainCell(rebuilt(cell))
    return history
