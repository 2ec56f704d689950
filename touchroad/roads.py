"""A fast machine that runs a program, and the sorted machine on programs."""

from touchroad.behaviours import check_short_program
from touchroad.checks import check_memory, check_number, check_plan
from touchroad.errors import NotReady
from touchroad.fastdeeds import is_seen_ended, plain_stand
from touchroad.live import Live
from touchroad.outsides import (
    check_outside,
    first_outside,
    least_bars_inside,
    outside_with_reasons,
    program_end_of_end,
    shows_outside,
)
from touchroad.road import behaviour_of_run, plain_book, viewing_of_run
from touchroad.scripts import is_short_program
from touchroad.sortedstands import sorted_end, sorted_moves
from touchroad.stands import end_of_stand
from touchroad.steadyrule import steady_deed


def sorted_outside(program, book, memory):
    """Return the first end of the sorted machine that belongs to no consistent behaviour, None if there is none."""
    check_outside(program, book, memory)
    return first_outside(program, book, memory, sorted_moves)


def sorted_outside_shown(program, book, memory):
    """Return (run, certificate) of the end that sorted_outside returns, None if there is none."""
    check_outside(program, book, memory)
    return outside_with_reasons(program, book, memory, sorted_moves)


def is_sorted_outside(program, book, memory, value):
    """Return whether any object is (run, certificate) of an end that belongs to no consistent behaviour."""
    check_outside(program, book, memory)
    return shows_outside(program, book, memory, value, sorted_end)


def least_road_gaps(program, memory):
    """Return the first places of gaps in the plain book with which sorted_outside returns None."""
    check_short_program(program)
    book = plain_book(program)
    check_memory(memory)
    return least_bars_inside(program, book, memory, (1,), sorted_moves)[1]


def program_end_at(stand):
    """Return the program end of a fast stand of which an end is seen."""
    return program_end_of_end(end_of_stand(plain_stand(stand)))


class Road:
    """A fast machine that runs the plain book of a program."""

    def __init__(self, plan, program, memory):
        check_plan(plan)
        self._program = program
        self._memory = memory
        self._live = Live(plan, plain_book(program), memory)

    @property
    def live(self):
        """The Live of the road."""
        return self._live

    def rest(self, turns):
        """Do deeds by the steady rule for at most so many turns; return whether an end is seen then."""
        check_number(turns, 0, 20000)
        live = self._live
        book = live.book
        for turn in range(turns):
            if is_seen_ended(book, live.stand):
                break
            core = turn % len(book)
            deed = steady_deed(live.plan, book[core], live.stand, core)
            if deed is not None:
                live.deed(deed)
        return is_seen_ended(book, live.stand)

    def climb(self):
        """Return (steps, behaviour, viewing, end) of what the deeds of the story did, when an end is seen."""
        live = self._live
        if not is_seen_ended(live.book, live.stand):
            raise NotReady(None)
        program, memory = self._program, self._memory
        steps = live.steps()
        behaviour = behaviour_of_run(program, memory, steps) if is_short_program(program) else None
        return steps, behaviour, viewing_of_run(program, memory, steps), program_end_at(live.stand)
