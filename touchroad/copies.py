"""Caches, homes and letters."""

from touchroad.caches import all_now, begun_copies, state_in, words_now
from touchroad.checks import check_memory_of, check_number, check_plan
from touchroad.copyform import agree, has_form
from touchroad.errors import NotLet
from touchroad.letters import after_deed, is_let_deed, let_deeds_of
from touchroad.values import rebuilt


def copies_first(plan, memory, cores):
    """Return the first copies."""
    check_plan(plan)
    check_memory_of(plan, memory)
    check_number(cores, 1, 4)
    return begun_copies(plan, memory, cores)


def copies_deeds(plan, copies):
    """Return the list of the deeds that are let, except write, core by core."""
    check_plan(plan)
    deeds = []
    for core in range(len(copies[0])):
        deeds.extend(let_deeds_of(plan, copies, core))
    return deeds


def copies_after(plan, copies, deed):
    """Return (copies after a deed, the line that its core lost by it, or None)."""
    check_plan(plan)
    if not is_let_deed(plan, copies, deed):
        raise NotLet(rebuilt(deed))
    return after_deed(plan, copies, deed)


def word_now(plan, copies, cell):
    """Return the word of a cell now."""
    check_plan(plan)
    check_number(cell, 0, plan[0] - 1)
    return words_now(copies, cell // plan[1])[cell % plan[1]]


def memory_now(plan, copies):
    """Return the tuple of the words of all cells now."""
    check_plan(plan)
    return all_now(copies)


def state_of(copies, core, line):
    """Return the state of a line in the cache of a core, None if the cache does not have it."""
    check_number(core, 0, len(copies[0]) - 1)
    check_number(line, 0, len(copies[1]) - 1)
    return state_in(copies[0][core], line)


def fits(plan, copies):
    """Return whether any object has the form of copies of a plan, and its caches agree."""
    check_plan(plan)
    return has_form(plan, copies) and all([agree(copies, line) for line in range(len(copies[1]))])
