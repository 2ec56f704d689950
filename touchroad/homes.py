"""What arrives at the homes of the lines, for arguments that have been checked."""

from touchroad.caches import sent_in, with_home, with_way


def joined(cores, core):
    """Return an ascending tuple of cores with one more."""
    return tuple(sorted([other for other in cores if other != core] + [core]))


def given(copies, line, core, kind):
    """Return copies after a line was sent to a core that wants it; nobody but the core owns it then."""
    words, _, sharers, _, waiting = copies[1][line]
    if kind == "read":
        copies = with_home(copies, line, (words, None, joined(sharers, core), None, waiting))
        return sent_in(copies, core, ("have", line, "shared", words))
    copies = with_home(copies, line, (words, core, (), None, waiting))
    return sent_in(copies, core, ("have", line, "owned", words))


def concerned(copies, line, core, kind):
    """Return the cores whose answers a want needs first."""
    _, owner, sharers, _, _ = copies[1][line]
    if kind == "read":
        return () if owner is None else (owner,)
    cores = range(len(copies[0]))
    return tuple([other for other in cores if other != core and (other == owner or other in sharers)])


def begun_want(copies, line, core, kind):
    """Return copies after a want was begun at a home that is not busy."""
    others = concerned(copies, line, core, kind)
    if len(others) == 0:
        return given(copies, line, core, kind)
    words, owner, sharers, _, waiting = copies[1][line]
    copies = with_home(copies, line, (words, owner, sharers, (core, kind, others), waiting))
    for other in others:
        copies = sent_in(copies, other, ("share" if kind == "read" else "lose", line))
    return copies


def ended_want(copies, line):
    """Return copies after the busy want was ended, and those that wait were begun as far as possible."""
    core, kind, _ = copies[1][line][3]
    copies = given(copies, line, core, kind)
    while copies[1][line][3] is None and len(copies[1][line][4]) > 0:
        words, owner, sharers, busy, waiting = copies[1][line]
        copies = with_home(copies, line, (words, owner, sharers, busy, waiting[1:]))
        copies = begun_want(copies, line, waiting[0][0], waiting[0][1])
    return copies


def arrived_want(copies, line, core, kind):
    """Return copies after a want arrived at its home."""
    words, owner, sharers, busy, waiting = copies[1][line]
    if busy is None and len(waiting) == 0:
        return begun_want(copies, line, core, kind)
    return with_home(copies, line, (words, owner, sharers, busy, waiting + ((core, kind),)))


def arrived_answer(copies, core, letter):
    """Return copies after a letter gave, lost or gone arrived at its home."""
    line = letter[1]
    words, owner, sharers, busy, waiting = copies[1][line]
    if letter[0] != "gone":
        words, owner = letter[2], None
    if letter[0] == "gave":
        sharers = joined(sharers, core)
    left = tuple([other for other in busy[2] if other != core])
    copies = with_home(copies, line, (words, owner, sharers, (busy[0], busy[1], left), waiting))
    return ended_want(copies, line) if len(left) == 0 else copies


def after_out(copies, core):
    """Return copies after the first letter on the way out of a core arrived."""
    out, arriving = copies[2][core]
    copies = with_way(copies, core, out[1:], arriving)
    letter = out[0]
    if letter[0] == "want":
        return arrived_want(copies, letter[1], core, letter[2])
    if letter[0] == "back":
        _, _, sharers, busy, waiting = copies[1][letter[1]]
        return with_home(copies, letter[1], (letter[2], None, sharers, busy, waiting))
    return arrived_answer(copies, core, letter)
