"""What breaks the four rules, for behaviours and, under the picks that hold, in trees of certificates."""

from touchroad.decisions import are_events, is_event, is_way
from touchroad.relations import (
    back_in,
    direct_order,
    is_misplaced,
    is_wrong_await,
    is_wrong_branch,
    step_order,
    under_order,
)
from touchroad.rings import ring_among
from touchroad.sketches import known_words
from touchroad.values import is_integer


def all_events(scene):
    """Return the set of all events."""
    return (1 << len(scene.events)) - 1


def is_ring_in(scene, order, value):
    """Return whether any object is a tuple of two or more different events that is a ring of an order."""
    return are_events(scene, value) and len(set(value)) == len(value) and is_way(order, value + value[:1])


def shows_round(scene, picked, value):
    """Return whether a tuple is ("round", events)."""
    return len(value) == 2 and is_ring_in(scene, step_order(scene, picked), value[1])


def shows_back(scene, picked, after, value):
    """Return whether a tuple is ("back", before, under)."""
    if len(value) != 3 or not are_events(scene, value[1]) or not are_events(scene, value[2]):
        return False
    before, under = value[1], value[2]
    if before[0] != under[-1] or before[-1] != under[0]:
        return False
    return is_way(direct_order(scene, picked), before) and is_way(under_order(scene, picked, after), under)


def shows_branch(scene, words, value):
    """Return whether a tuple is ("branch", hand, index)."""
    if len(value) != 3 or not is_integer(value[1]) or not is_integer(value[2]):
        return False
    return any([branch[:2] == value[1:] and is_wrong_branch(words, branch) for branch in scene.branches])


def shows_await(scene, words, value):
    """Return whether a tuple is ("await", event)."""
    return len(value) == 2 and is_event(scene, value[1]) and is_wrong_await(scene, words, value[1])


def shows_breaking(scene, picked, after, value):
    """Return whether any object says what breaks a rule in a behaviour."""
    if not isinstance(value, tuple) or len(value) == 0 or not isinstance(value[0], str):
        return False
    name = value[0]
    if name == "round":
        return shows_round(scene, picked, value)
    if name == "between":
        return len(value) == 2 and is_event(scene, value[1]) and is_misplaced(scene, picked, after, value[1])
    if name == "back":
        return shows_back(scene, picked, after, value)
    if name not in ("branch", "await") or ring_among(step_order(scene, picked), all_events(scene)) is not None:
        return False
    words = known_words(scene, picked)
    return shows_branch(scene, words, value) if name == "branch" else shows_await(scene, words, value)


def wrong_word_in(scene, words):
    """Return ("branch", hand, index) or ("await", event) for the first one that is wrong, None if none is."""
    for branch in scene.branches:
        if is_wrong_branch(words, branch):
            return ("branch",) + branch[:2]
    for event in range(len(scene.events)):
        if is_wrong_await(scene, words, event):
            return ("await", event)
    return None


def breaking_of(scene, picked, after):
    """Return a tuple that says what breaks the first rule that is broken in a behaviour, None if none is."""
    ring = ring_among(step_order(scene, picked), all_events(scene))
    if ring is not None:
        return ("round", ring)
    for event in range(len(scene.events)):
        if is_misplaced(scene, picked, after, event):
            return ("between", event)
    back = back_in(scene, picked, after)
    if back is not None:
        return ("back",) + back
    return wrong_word_in(scene, known_words(scene, picked))
