"""Choices of short books, for books and memories that have been checked."""

from touchroad.rings import behind_order, named_ring, unwound
from touchroad.sketches import known_words, rows_before_stop
from touchroad.values import is_between, is_integer, is_tuple_of


def sources_for(sketch, event):
    """Return the ascending list of the sources that an event which reads can have."""
    return [-1] + [write for write in sketch.writers[sketch.events[event][3]] if write != event]


def readers_of(sketch):
    """Return the ascending list of the events that read."""
    return [event for event, node in enumerate(sketch.taken) if node is not None]


def is_read(sketch, event, value):
    """Return whether any object is (event, source) for an event that reads."""
    if not is_tuple_of(value, 2) or not is_integer(value[0]) or not is_integer(value[1]):
        return False
    return value[0] == event and value[1] in sources_for(sketch, event)


def is_sequence(sketch, cell, value):
    """Return whether any object is a tuple of all events that write to a cell."""
    if not is_tuple_of(value, len(sketch.writers[cell])):
        return False
    if not all([is_between(event, 0, len(sketch.events) - 1) for event in value]):
        return False
    return sorted(value) == sketch.writers[cell]


def is_choice(sketch, value):
    """Return whether any object is a choice."""
    readers = readers_of(sketch)
    if not is_tuple_of(value, 2) or not is_tuple_of(value[0], len(readers)):
        return False
    if not all([is_read(sketch, event, pair) for event, pair in zip(readers, value[0])]):
        return False
    if not is_tuple_of(value[1], len(sketch.memory)):
        return False
    return all([is_sequence(sketch, cell, order) for cell, order in enumerate(value[1])])


def picks_of(sketch, choice):
    """Return (picked, after) of a choice, as rings.py describes them."""
    after = [0] * len(sketch.events)
    for order in choice[1]:
        later = 0
        for write in reversed(order):
            after[write] = later
            later |= 1 << write
    return {event: source for event, source in choice[0]}, after


def order_of_choice(sketch, choice, order_of):
    """Return the order of a choice by order_of(sketch, picked, after)."""
    picked, after = picks_of(sketch, choice)
    return order_of(sketch, picked, after)


def ring_of_choice(sketch, choice):
    """Return (kind, ring) of a choice, None if it is without a ring."""
    picked, after = picks_of(sketch, choice)
    return named_ring(sketch, picked, after, (1 << len(sketch.events)) - 1)


def end_of_choice(sketch, choice):
    """Return the end that belongs to a choice without a ring."""
    words = known_words(sketch, picks_of(sketch, choice)[0])
    registers = tuple([tuple([words[node] for node in nodes]) for nodes in sketch.last])
    memory = list(sketch.memory)
    for cell, order in enumerate(choice[1]):
        if len(order) > 0:
            memory[cell] = words[sketch.given[order[-1]]]
    return registers, tuple(memory)


def sorted_run_of_choice(sketch, book, choice):
    """Return a run of the sorted machine whose choice is one without a ring in the order of the sketch.

    The events come to memory in a sequence that behind allows; a load, a fence, a swap and an addto
    when they are done, a store when it is flushed.
    """
    order = order_of_choice(sketch, choice, behind_order)
    events, _ = unwound(order, (1 << len(sketch.events)) - 1)
    steps = []
    done = [0] * len(book)
    for event in reversed(events):
        core, row, name, cell = sketch.events[event]
        steps.extend([("do", core)] * (row + 1 - done[core]))
        done[core] = max(done[core], row + 1)
        if name == "store":
            steps.append(("flush", core, cell))
    for core, rows in enumerate(book):
        steps.extend([("do", core)] * (len(rows_before_stop(rows)) - done[core]))
    return steps


def run_of_choice(sketch, book, choice):
    """Return a run of the plain machine whose choice is one without a ring."""
    return [step[:2] for step in sorted_run_of_choice(sketch, book, choice)]


def source_now(sketch, late, orders, event):
    """Return the event from which an event that reads has its word now."""
    cell = sketch.events[event][3]
    found = [-1] + orders[cell] + [write for write in late if sketch.events[write][3] == cell]
    return found[-1]


def flushed_index(sketch, late, step):
    """Return which of the late stores of a core a flush writes, of the plain or of the sorted machine."""
    return 0 if len(step) == 2 else [sketch.events[event][3] for event in late].index(step[2])


def choice_of_steps(sketch, book, steps):
    """Return the choice of a run of the plain or of the sorted machine."""
    numbers = {(core, row): event for event, (core, row, _, _) in enumerate(sketch.events)}
    done = [0] * len(book)
    late = [[] for _ in book]
    orders = [[] for _ in sketch.memory]
    sources = []
    for step in steps:
        name, core = step[:2]
        if name == "flush":
            event = late[core].pop(flushed_index(sketch, late[core], step))
        else:
            event = numbers.get((core, done[core]))
            done[core] += 1
        if event is None:
            continue
        if name == "do" and sketch.taken[event] is not None:
            sources.append((event, source_now(sketch, late[core], orders, event)))
        if name == "do" and sketch.events[event][2] == "store":
            late[core].append(event)
        elif sketch.given[event] is not None:
            orders[sketch.events[event][3]].append(event)
    return tuple(sorted(sources)), tuple([tuple(order) for order in orders])
