"""The search over all stands of the plain machine or the one-row machine, for arguments that have been checked.

moves(book, stand) returns the list of the tuples (step, stand after it).
"""

from touchroad.stands import after_step, after_turn, end_of_stand, first_stand, is_ended, is_turn, let_steps
from touchroad.values import are_words, is_tuple_of


def plain_moves(book, stand):
    """Return the moves of the plain machine."""
    return [(step, after_step(book, stand, step)) for step in let_steps(book, stand)]


def one_row_moves(book, stand):
    """Return the moves of the one-row machine."""
    return [(core, after_turn(book, stand, core)) for core in range(len(book)) if is_turn(book, stand, core)]


def reached_from(book, start, moves):
    """Return a dict of all stands that can be reached, each with (stand before, step); None for the first.

    A stand that stands earlier in the dict is reached by a shorter list of steps, or by one of the same
    length that stands before its own if the moves are sorted by steps.
    """
    before = {start: None}
    waiting = [start]
    at = 0
    while at < len(waiting):
        stand = waiting[at]
        at += 1
        for step, following in moves(book, stand):
            if following not in before:
                before[following] = (stand, step)
                waiting.append(following)
    return before


def reached(book, memory, moves):
    """Return what reached_from returns for the first stand."""
    return reached_from(book, first_stand(book, memory), moves)


def ends_by(book, memory, moves):
    """Return the ascending list of all ends."""
    found = {}
    for stand in reached(book, memory, moves):
        if is_ended(book, stand):
            found[end_of_stand(stand)] = True
    return sorted(found)


def links_to(before, stand):
    """Return the list of the tuples (stand, step) of the way to a stand."""
    links = []
    link = before[stand]
    while link is not None:
        links.append(link)
        link = before[link[0]]
    return links[::-1]


def way_to(before, stand):
    """Return the list of the steps that lead to a stand."""
    return [step for _, step in links_to(before, stand)]


def run_by_moves(book, memory, end, moves):
    """Return a run that leads to an end, None if there is none."""
    before = reached(book, memory, moves)
    for stand in before:
        if is_ended(book, stand) and end_of_stand(stand) == end:
            return way_to(before, stand)
    return None


def is_end(book, memory, value):
    """Return whether any object is an end with as many cores as a book and as many cells as a memory."""
    if not is_tuple_of(value, 2) or not is_tuple_of(value[0], len(book)):
        return False
    return all([are_words(registers, 8) for registers in value[0]]) and are_words(value[1], len(memory))


def stands_before(book, memory):
    """Return a dict of all stands of the plain machine, each with the list of the stands before it."""
    before = {stand: [] for stand in reached(book, memory, plain_moves)}
    for stand in list(before):
        for _, following in plain_moves(book, stand):
            before[following].append(stand)
    return before


def is_stuck_somewhere(book, memory):
    """Return whether from some stand of the plain machine no end can be reached."""
    before = stands_before(book, memory)
    ending = {stand: True for stand in before if is_ended(book, stand)}
    waiting = list(ending)
    while len(waiting) > 0:
        following = waiting.pop()
        for stand in before[following]:
            if stand not in ending:
                ending[stand] = True
                waiting.append(stand)
    return len(ending) < len(before)
