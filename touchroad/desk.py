"""Commands.

parts is a dict with what a desk has so far of a plan, a memory, a book, a program and a Live, by these names.
"""

from touchroad.behaviours import behaviour_ends
from touchroad.certificates import decide
from touchroad.commands import command_in
from touchroad.ends import ends, late_end
from touchroad.errors import NotReady
from touchroad.exchanges import rewrites
from touchroad.fastdeeds import is_seen_ended
from touchroad.fences import least_fences
from touchroad.histories import linearization_at
from touchroad.live import Live
from touchroad.papers import comes
from touchroad.races import race
from touchroad.road import least_wholes, outside, plain_book
from touchroad.roads import program_end_at
from touchroad.texts import show_end, show_paper, show_program_end, show_run, show_stand, spaced

NEEDS = {
    "start": ("plan", "book", "memory"),
    "go": ("live",),
    "back": ("live",),
    "now": ("live",),
    "register": ("live",),
    "steps": ("live",),
    "seen": ("live",),
    "ends": ("book", "memory"),
    "late": ("book", "memory"),
    "against": ("book", "memory"),
    "fences": ("book", "memory"),
    "race": ("book", "memory"),
    "can": ("program", "memory"),
    "decide": ("program", "memory"),
    "outside": ("program", "book", "memory"),
    "wholes": ("program", "memory"),
    "rewrites": ("program", "memory"),
    "climb": ("program", "live"),
}


def listed(texts):
    """Return texts with a stroke between two, "-" if there are none."""
    return " / ".join(texts) if len(texts) > 0 else "-"


def show_numbers(numbers):
    """Return numbers with a space between two, "-" if there are none."""
    return spaced(numbers) if len(numbers) > 0 else "-"


def show_places(places):
    """Return the rows of each core."""
    return " ; ".join([show_numbers(rows) for rows in places])


def set_plan(parts, value):
    """Set the plan."""
    parts["plan"] = value
    return "ok"


def set_memory(parts, value):
    """Set the memory."""
    parts["memory"] = value
    return "ok"


def set_book(parts, value):
    """Set the book."""
    parts["book"] = value
    return "ok"


def set_program(parts, value):
    """Set the program, and its plain book as the book."""
    parts["book"] = plain_book(value)
    parts["program"] = value
    return "ok"


def start(parts, _):
    """Make a new Live."""
    parts["live"] = Live(parts["plan"], parts["book"], parts["memory"])
    return "ok"


def go_on(parts, value):
    """Do deeds of the Live."""
    number, most = value
    return str(parts["live"].go(number, most))


def take_back(parts, _):
    """Take the last deed of the Live back."""
    parts["live"].back()
    return "ok"


def show_now(parts, value):
    """Return the word of a cell."""
    return str(parts["live"].now(value[0]))


def show_held(parts, value):
    """Return the word of a register."""
    core, number = value
    return str(parts["live"].held(core, number))


def show_steps(parts, _):
    """Return the plain steps that the deeds of the Live are."""
    return show_run(parts["live"].steps())


def show_seen(parts, _):
    """Return the plain stand that is seen of the Live."""
    return show_stand(parts["live"].plain())


def show_ends(parts, _):
    """Return the ends of the book."""
    return listed([show_end(end) for end in ends(parts["book"], parts["memory"])])


def show_late(parts, _):
    """Return the first end that only the plain machine has."""
    end = late_end(parts["book"], parts["memory"])
    return "-" if end is None else show_end(end)


def show_against(parts, value):
    """Return a run to an end, or a paper against it."""
    kind, found = comes(parts["book"], parts["memory"], value)
    return "run " + show_run(found) if kind == "run" else "paper " + show_paper(found)


def show_fences(parts, _):
    """Return where the book needs fences."""
    return show_places(least_fences(parts["book"], parts["memory"]))


def show_race(parts, _):
    """Return the first race of the book."""
    found = race(parts["book"], parts["memory"])
    return "none" if found is None else show_numbers(found[0]) + " | " + spaced(found[1:])


def show_can(parts, _):
    """Return the program ends of the consistent behaviours of the program."""
    return listed([show_program_end(end) for end in behaviour_ends(parts["program"], parts["memory"])])


def show_decided(parts, value):
    """Return whether a behaviour has a program end, or a certificate is against it."""
    return decide(parts["program"], parts["memory"], value)[0]


def show_outside(parts, _):
    """Return the first end of the book that belongs to no consistent behaviour of the program."""
    end = outside(parts["program"], parts["book"], parts["memory"])
    return "-" if end is None else show_end(end)


def show_wholes(parts, _):
    """Return where the bare book of the program needs fences."""
    return show_places(least_wholes(parts["program"], parts["memory"]))


def show_rewrites(parts, _):
    """Return the rewrites of the program."""
    return listed([spaced(rewrite) for rewrite in rewrites(parts["program"], len(parts["memory"]))])


def show_climbed(parts, _):
    """Return the program end to which the Live has come."""
    live = parts["live"]
    if live.book != plain_book(parts["program"]) or not is_seen_ended(live.book, live.stand):
        raise NotReady(None)
    return show_program_end(program_end_at(live.stand))


def show_linearized(_, value):
    """Return the first linearization of a history."""
    kind, history = value
    found = linearization_at(kind, history, 0)
    return "-" if found is None else spaced(found)


ACTIONS = {
    "plan": set_plan,
    "memory": set_memory,
    "source": set_book,
    "start": start,
    "go": go_on,
    "back": take_back,
    "now": show_now,
    "register": show_held,
    "steps": show_steps,
    "seen": show_seen,
    "ends": show_ends,
    "late": show_late,
    "against": show_against,
    "fences": show_fences,
    "race": show_race,
    "program": set_program,
    "can": show_can,
    "decide": show_decided,
    "outside": show_outside,
    "wholes": show_wholes,
    "rewrites": show_rewrites,
    "climb": show_climbed,
    "linearize": show_linearized,
}


class Desk:
    """What commands have set so far."""

    def __init__(self):
        self._parts = {}

    def execute(self, line):
        """Do the command in a line; return what it says."""
        name, value = command_in(line)
        if not all([need in self._parts for need in NEEDS.get(name, ())]):
            raise NotReady(None)
        action = ACTIONS[name]
        return action(self._parts, value)
