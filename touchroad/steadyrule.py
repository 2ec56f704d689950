"""The steady rule, for arguments that have been checked."""

from touchroad.books import cell_of
from touchroad.caches import owns_cell, state_in
from touchroad.fastdeeds import can_flush_fast, can_retire, first_exchange, runs_of
from touchroad.letters import can_arrive, can_ask
from touchroad.windows import can_fetch, ready_words


def unless_owned(plan, cache, cell):
    """Return the want of the line of a cell to write to it, None if the cache owns the line."""
    return None if owns_cell(plan, cache, cell) else (cell // plan[1], "own")


def wanted(plan, rows, stand, core):
    """Return (line, kind) that a core wants, None if it wants nothing."""
    stores, window = stand[0][core][2], stand[0][core][5]
    cache = stand[1][0][core]
    if len(stores) > 0:
        return unless_owned(plan, cache, stores[0][1])
    exchanged = first_exchange(plan, rows, window)
    if exchanged is not None:
        return unless_owned(plan, cache, exchanged)
    for entry in window:
        words = ready_words(entry[2])
        if rows[entry[1]][0] == "load" and entry[4] is None and words is not None:
            line = cell_of(plan[0], words[0], rows[entry[1]][3]) // plan[1]
            return (line, "read") if state_in(cache, line) is None else None
    return None


def deed_for_want(plan, rows, stand, core):
    """Return the ask or the drop that a core does for what it wants, None if it does none."""
    want = wanted(plan, rows, stand, core)
    if want is None:
        return None
    line, kind = want
    if can_ask(plan, stand[1], core, line, kind):
        return ("ask", core, line, kind)
    lines, asked = stand[1][0][core]
    if len(lines) < plan[2] or asked is not None or state_in(stand[1][0][core], line) is not None:
        return None
    return ("drop", core, lines[0][0])


def steady_deed(plan, rows, stand, core):
    """Return the deed of a core in its turn, None if it does nothing."""
    if can_retire(plan, rows, stand, core):
        return ("retire", core)
    if can_flush_fast(plan, stand, core):
        return ("flush", core)
    runs = runs_of(plan, rows, stand, core)
    if len(runs) > 0:
        return runs[0]
    for name in ("in", "out"):
        if can_arrive(stand[1], name, core):
            return (name, core)
    if can_fetch(plan, rows, stand[0][core]):
        return ("fetch", core)
    return deed_for_want(plan, rows, stand, core)
