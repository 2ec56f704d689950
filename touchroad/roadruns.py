"""Runs of the books of programs as runs of the viewing machine, for arguments that have been checked.

A name (hand, index) stands for the action of a hand that has so many actions before it, and None, where a source is
named, for the first word of a cell.
"""

from touchroad.bookmaking import book_of
from touchroad.stands import access_cell, first_stand
from touchroad.viewruns import index_behind


class Trace:
    """What a run of the book of a program has done.

    acts has (name, cell) for each action, with None for the cell of one that is no touch. sources has the source of
    each action that reads, and orders the writes of each cell, the hidden cell last. counts has the number of the
    actions of each hand, late its late stores as (cell, name), and looked the (cell, source) of its last load for an
    await.
    """

    def __init__(self, hands, cells):
        self.acts = []
        self.sources = {}
        self.orders = [[] for _ in range(cells + 1)]
        self.counts = [0] * hands
        self.late = [[] for _ in range(hands)]
        self.looked = [None] * hands


def source_in(trace, hand, cell):
    """Return the source of a touch of a hand that reads a cell now."""
    late = [name for place, name in trace.late[hand] if place == cell]
    return ([None] + trace.orders[cell] + late)[-1]


def add_touch(trace, name, cell, kind):
    """Add what a touch reads and writes; kind is the name of its instruction."""
    if kind == "store":
        trace.late[name[0]].append((cell, name))
        return
    trace.sources[name] = source_in(trace, name[0], cell)
    if kind != "load":
        trace.orders[cell].append(name)


def add_own(trace, name, instruction, registers):
    """Add what an action other than an if or an await does; return its cell, None if it is no touch."""
    hidden = len(trace.orders) - 1
    kind = instruction[0]
    if kind not in ("load", "store", "swap", "addto", "fence"):
        return None
    cell = hidden if kind == "fence" else access_cell(instruction, registers, hidden)
    add_touch(trace, name, cell, kind)
    return cell


def trace_do(trace, hand, made, registers):
    """Add what a hand does at a made row."""
    instruction, part = made
    name = (hand, trace.counts[hand])
    if part == "look":
        cell = access_cell(instruction, registers, len(trace.orders) - 1)
        trace.looked[hand] = (cell, source_in(trace, hand, cell))
    if part in (None, "look") or part == "leave" and registers[6] != 0:
        return
    cell = None
    if part == "own":
        cell = add_own(trace, name, instruction, registers)
    elif part == "leave":
        cell, trace.sources[name] = trace.looked[hand]
    trace.acts.append((name, cell))
    trace.counts[hand] += 1


def trace_flush(trace, step):
    """Add what a flush of the plain machine or of the sorted machine writes."""
    late = trace.late[step[1]]
    at = 0 if len(step) == 2 else [cell for cell, _ in late].index(step[2])
    cell, name = late.pop(at)
    trace.orders[cell].append(name)


def trace_of(made, memory, run, after):
    """Return the trace of a run of the book of made rows; after(book, stand, step) is as in runs.py."""
    book = book_of(made)
    stand = first_stand(book, memory)
    trace = Trace(len(made), len(memory))
    for step in run:
        if step[0] == "flush":
            trace_flush(trace, step)
        else:
            row, registers, _ = stand[0][step[1]]
            trace_do(trace, step[1], made[step[1]][row], registers)
        stand = after(book, stand, step)
    return trace


def viewing_steps_of(trace):
    """Return the run of the viewing machine that does the actions of a trace in the sequence of its acts.

    What an action reads has been done before it, at the latest as a late store. So each version is there when it is
    read, and a write is put behind the versions that came to memory earlier.
    """
    versions = [[None] for _ in trace.orders]
    steps = []
    for name, cell in trace.acts:
        if cell is None:
            steps.append(("do", name[0]))
            continue
        if name in trace.sources:
            at = versions[cell].index(trace.sources[name])
        else:
            at = index_behind(trace.orders[cell], versions[cell], name)
        steps.append(("touch", name[0], at))
        if name in trace.orders[cell]:
            versions[cell].insert(at + 1, name)
    return steps
