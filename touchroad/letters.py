"""The deeds of copies, for arguments that have been checked."""

from touchroad.caches import KINDS, line_in, owns_cell, sent_out, state_in, with_cache, with_line, with_way
from touchroad.caches import without_line, written_copies
from touchroad.homes import after_out
from touchroad.values import is_between, is_one_of, is_word


def can_ask(plan, copies, core, line, kind):
    """Return whether an ask is let."""
    cache = copies[0][core]
    if cache[1] is not None:
        return False
    state = state_in(cache, line)
    if state is None:
        return len(cache[0]) < plan[2]
    return state == "shared" and kind == "own"


def can_drop(copies, core, line):
    """Return whether a drop is let."""
    cache = copies[0][core]
    asked_for = cache[1] is not None and cache[1][0] == line
    return state_in(cache, line) is not None and not asked_for


def can_arrive(copies, name, core):
    """Return whether an out or an in is let."""
    return len(copies[2][core][0 if name == "out" else 1]) > 0


def is_let_of_core(plan, copies, deed):
    """Return whether a tuple that begins with a string and a core is a deed that is let."""
    name, core = deed[0], deed[1]
    lines = len(copies[1])
    if name in ("out", "in"):
        return len(deed) == 2 and can_arrive(copies, name, core)
    if name == "drop":
        return len(deed) == 3 and is_between(deed[2], 0, lines - 1) and can_drop(copies, core, deed[2])
    if name == "ask":
        if len(deed) != 4 or not is_between(deed[2], 0, lines - 1) or not is_one_of(deed[3], KINDS):
            return False
        return can_ask(plan, copies, core, deed[2], deed[3])
    if name != "write" or len(deed) != 4 or not is_between(deed[2], 0, plan[0] - 1) or not is_word(deed[3]):
        return False
    return owns_cell(plan, copies[0][core], deed[2])


def is_let_deed(plan, copies, deed):
    """Return whether any object is a deed of copies that is let."""
    if not isinstance(deed, tuple) or len(deed) < 2 or not isinstance(deed[0], str):
        return False
    return is_between(deed[1], 0, len(copies[0]) - 1) and is_let_of_core(plan, copies, deed)


def let_deeds_of(plan, copies, core):
    """Return the list of the deeds of a core that are let, except write."""
    lines = range(len(copies[1]))
    deeds = [("ask", core, line, kind) for line in lines for kind in KINDS if can_ask(plan, copies, core, line, kind)]
    deeds.extend([("drop", core, line) for line in lines if can_drop(copies, core, line)])
    deeds.extend([(name, core) for name in ("out", "in") if can_arrive(copies, name, core)])
    return deeds


def after_ask(copies, core, line, kind):
    """Return copies after an ask."""
    copies = with_cache(copies, core, (copies[0][core][0], (line, kind)))
    return sent_out(copies, core, ("want", line, kind))


def after_drop(copies, core, line):
    """Return copies after a drop."""
    _, state, words = line_in(copies[0][core], line)
    copies = with_cache(copies, core, without_line(copies[0][core], line))
    return sent_out(copies, core, ("back", line, words)) if state == "owned" else copies


def arrived_have(copies, core, letter):
    """Return copies after a letter have arrived at its core."""
    lines, _ = copies[0][core]
    return with_cache(copies, core, with_line((lines, None), letter[1], letter[2], letter[3]))


def arrived_share(copies, core, line):
    """Return copies after a letter share arrived at its core."""
    held = line_in(copies[0][core], line)
    if held is None or held[1] != "owned":
        return sent_out(copies, core, ("gone", line))
    copies = with_cache(copies, core, with_line(copies[0][core], line, "shared", held[2]))
    return sent_out(copies, core, ("gave", line, held[2]))


def arrived_lose(copies, core, line):
    """Return copies after a letter lose arrived at its core."""
    held = line_in(copies[0][core], line)
    copies = with_cache(copies, core, without_line(copies[0][core], line))
    if held is None or held[1] != "owned":
        return sent_out(copies, core, ("gone", line))
    return sent_out(copies, core, ("lost", line, held[2]))


def after_in(copies, core):
    """Return (copies, the line that was lost) after the first letter on the way in to a core arrived."""
    out, arriving = copies[2][core]
    copies = with_way(copies, core, out, arriving[1:])
    letter = arriving[0]
    if letter[0] == "have":
        return arrived_have(copies, core, letter), None
    if letter[0] == "share":
        return arrived_share(copies, core, letter[1]), None
    lost = None if state_in(copies[0][core], letter[1]) is None else letter[1]
    return arrived_lose(copies, core, letter[1]), lost


def after_deed(plan, copies, deed):
    """Return (copies, the line that its core lost, or None) after a deed that is let."""
    name, core = deed[0], deed[1]
    if name == "ask":
        return after_ask(copies, core, deed[2], deed[3]), None
    if name == "drop":
        return after_drop(copies, core, deed[2]), deed[2]
    if name == "write":
        return written_copies(plan, copies, core, deed[2], deed[3]), None
    if name == "out":
        return after_out(copies, core), None
    return after_in(copies, core)
