"""Whether an object has the form of copies of a plan, and whether its caches agree."""

from touchroad.caches import KINDS, STATES, line_in, words_now
from touchroad.values import are_words, is_ascending, is_between, is_one_of, is_tuple_of

OUT = ("want", "back", "gave", "lost", "gone")
IN = ("have", "share", "lose")

# The parts of each letter behind its name: l is a line, k a kind, s a state, w the words of a line.
PARTS = {
    "want": "lk",
    "back": "lw",
    "gave": "lw",
    "lost": "lw",
    "gone": "l",
    "have": "lsw",
    "share": "l",
    "lose": "l",
}


def is_line(plan, value):
    """Return whether any object is a line."""
    return is_between(value, 0, plan[0] // plan[1] - 1)


def is_part(plan, value, sign):
    """Return whether any object is the part of a letter that a sign stands for."""
    if sign == "l":
        return is_line(plan, value)
    if sign == "w":
        return are_words(value, plan[1])
    return is_one_of(value, KINDS if sign == "k" else STATES)


def has_parts(plan, value, signs):
    """Return whether any object is a tuple of the parts that signs stand for."""
    if not is_tuple_of(value, len(signs)):
        return False
    return all([is_part(plan, part, sign) for part, sign in zip(value, signs)])


def is_letter(plan, value, names):
    """Return whether any object is a letter with one of these names."""
    if not isinstance(value, tuple) or len(value) == 0 or not is_one_of(value[0], names):
        return False
    return has_parts(plan, value[1:], PARTS[value[0]])


def is_way(plan, value):
    """Return whether any object is a way."""
    if not is_tuple_of(value, 2) or not isinstance(value[0], tuple) or not isinstance(value[1], tuple):
        return False
    if not all([is_letter(plan, letter, OUT) for letter in value[0]]):
        return False
    return all([is_letter(plan, letter, IN) for letter in value[1]])


def is_cache(plan, value):
    """Return whether any object is a cache."""
    if not is_tuple_of(value, 2) or not isinstance(value[0], tuple) or len(value[0]) > plan[2]:
        return False
    lines, asked = value
    if not all([has_parts(plan, held, "lsw") for held in lines]):
        return False
    if not is_ascending(tuple([held[0] for held in lines]), plan[0] // plan[1]):
        return False
    return asked is None or has_parts(plan, asked, "lk")


def is_want(value, cores):
    """Return whether any object is a want (core, kind)."""
    return is_tuple_of(value, 2) and is_between(value[0], 0, cores - 1) and is_one_of(value[1], KINDS)


def is_busy(value, cores):
    """Return whether any object is what makes a home busy, or None."""
    if value is None:
        return True
    return is_tuple_of(value, 3) and is_want(value[:2], cores) and is_ascending(value[2], cores)


def is_home(plan, value, cores):
    """Return whether any object is a home."""
    if not is_tuple_of(value, 5):
        return False
    words, owner, sharers, busy, waiting = value
    if not are_words(words, plan[1]) or not (owner is None or is_between(owner, 0, cores - 1)):
        return False
    if not is_ascending(sharers, cores) or not is_busy(busy, cores):
        return False
    return isinstance(waiting, tuple) and all([is_want(want, cores) for want in waiting])


def has_form(plan, value):
    """Return whether any object has the form of copies."""
    if not is_tuple_of(value, 3) or not all([isinstance(part, tuple) for part in value]):
        return False
    caches, homes, ways = value
    if not 1 <= len(caches) <= 4 or len(ways) != len(caches) or len(homes) != plan[0] // plan[1]:
        return False
    if not all([is_cache(plan, cache) for cache in caches]) or not all([is_way(plan, way) for way in ways]):
        return False
    return all([is_home(plan, home, len(caches)) for home in homes])


def agree(copies, line):
    """Return whether the caches agree on a line."""
    lines = [line_in(cache, line) for cache in copies[0]]
    found = [held for held in lines if held is not None]
    if len(found) == 1 and found[0][1] == "owned":
        return True
    words = words_now(copies, line)
    return all([held[1] == "shared" and held[2] == words for held in found])
