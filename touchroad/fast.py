"""The fast machine, and what is seen of it."""

from touchroad.checks import check_book, check_memory_of, check_number, check_plan
from touchroad.errors import InvalidNumber, NotLet
from touchroad.fastdeeds import after_fast, begun_stand, is_let_fast, is_seen_ended, let_deeds, plain_stand, step_of
from touchroad.runs import stand_by
from touchroad.stands import after_step, first_stand, is_plain_let
from touchroad.steadyrule import steady_deed
from touchroad.values import is_integer, rebuilt


def first(plan, book, memory):
    """Return the first fast stand."""
    check_plan(plan)
    check_book(book)
    check_memory_of(plan, memory)
    return begun_stand(plan, book, memory)


def deeds(plan, book, stand):
    """Return the list of the deeds that are let, core by core."""
    check_plan(plan)
    check_book(book)
    return let_deeds(plan, book, stand)


def after(plan, book, stand, deed):
    """Return the stand after a deed."""
    check_plan(plan)
    check_book(book)
    if not is_let_fast(plan, book, stand, deed):
        raise NotLet(rebuilt(deed))
    return after_fast(plan, book, stand, deed)


def seen(plan, stand):
    """Return the plain stand that is seen of a fast stand."""
    check_plan(plan)
    return plain_stand(stand)


def told(plan, book, stand, deed):
    """Return the plain step that a deed is, None if it is none."""
    check_plan(plan)
    check_book(book)
    if not is_let_fast(plan, book, stand, deed):
        raise NotLet(rebuilt(deed))
    return step_of(deed)


def check_weather(weather):
    """Raise InvalidNumber for the first integer below 0."""
    for number in weather:
        if not is_integer(number) or number < 0:
            raise InvalidNumber(rebuilt(number))


def run_by(plan, book, memory, weather):
    """Return (deeds, stand after them), each deed chosen by an integer."""
    stand = first(plan, book, memory)
    check_weather(weather)
    done = []
    for number in weather:
        found = let_deeds(plan, book, stand)
        done.append(found[number % len(found)])
        stand = after_fast(plan, book, stand, done[-1])
    return done, stand


def steady(plan, book, memory, turns):
    """Return (deeds, stand after them) of the steady rule for at most so many turns."""
    stand = first(plan, book, memory)
    check_number(turns, 0, 20000)
    done = []
    for turn in range(turns):
        if is_seen_ended(book, stand):
            break
        core = turn % len(book)
        deed = steady_deed(plan, book[core], stand, core)
        if deed is not None:
            done.append(deed)
            stand = after_fast(plan, book, stand, deed)
    return done, stand


def stand_after_all(plan, book, memory, done):
    """Return the stand after a list of deeds from the first stand on."""
    stand = first(plan, book, memory)
    for deed in done:
        if not is_let_fast(plan, book, stand, deed):
            raise NotLet(rebuilt(deed))
        stand = after_fast(plan, book, stand, deed)
    return stand


def bridge(plan, book, memory, done):
    """Return the list of the plain steps that deeds from the first stand on are."""
    stand_after_all(plan, book, memory, done)
    steps = [step_of(deed) for deed in done]
    return [step for step in steps if step is not None]


def is_bridge(plan, book, memory, done, value):
    """Return whether any object is a list of plain steps to the stand that is seen after deeds."""
    aim = plain_stand(stand_after_all(plan, book, memory, done))
    return isinstance(value, list) and stand_by(book, first_stand(book, memory), value, is_plain_let, after_step) == aim
