"""The parts of copies, and the words now, for arguments that have been checked.

Copies are (caches, homes, ways); a cache is (lines, asked), a line in it (line, state, words),
a home (words, owner, sharers, busy, waiting), a way (out, in).
"""

from touchroad.values import replaced

KINDS = ("read", "own")
STATES = ("shared", "owned")


def begun_copies(plan, memory, cores):
    """Return the first copies."""
    line = plan[1]
    starts = range(0, plan[0], line)
    homes = tuple([(memory[start:start + line], None, (), None, ()) for start in starts])
    return (((), None),) * cores, homes, (((), ()),) * cores


def line_in(cache, line):
    """Return (line, state, words) of a line in a cache, None if the cache does not have it."""
    for held in cache[0]:
        if held[0] == line:
            return held
    return None


def state_in(cache, line):
    """Return the state of a line in a cache, None if the cache does not have it."""
    held = line_in(cache, line)
    return None if held is None else held[1]


def owns_cell(plan, cache, cell):
    """Return whether a cache has the line of a cell owned."""
    return state_in(cache, cell // plan[1]) == "owned"


def word_in(plan, cache, cell):
    """Return the word of a cell in a cache that has its line."""
    return line_in(cache, cell // plan[1])[2][cell % plan[1]]


def without_line(cache, line):
    """Return a cache without a line."""
    return tuple([held for held in cache[0] if held[0] != line]), cache[1]


def with_line(cache, line, state, words):
    """Return a cache that has a line so, in place of what it had of the line."""
    lines, asked = without_line(cache, line)
    return tuple(sorted(lines + ((line, state, words),))), asked


def with_cache(copies, core, cache):
    """Return copies with another cache of a core."""
    caches, homes, ways = copies
    return replaced(caches, core, cache), homes, ways


def with_home(copies, line, home):
    """Return copies with another home of a line."""
    caches, homes, ways = copies
    return caches, replaced(homes, line, home), ways


def with_way(copies, core, out, arriving):
    """Return copies with another way of a core."""
    caches, homes, ways = copies
    return caches, homes, replaced(ways, core, (out, arriving))


def sent_out(copies, core, letter):
    """Return copies with a letter more on the way out of a core."""
    out, arriving = copies[2][core]
    return with_way(copies, core, out + (letter,), arriving)


def sent_in(copies, core, letter):
    """Return copies with a letter more on the way in to a core."""
    out, arriving = copies[2][core]
    return with_way(copies, core, out, arriving + (letter,))


def written_copies(plan, copies, core, cell, word):
    """Return copies with another word of a cell in a cache that has its line."""
    line, state, words = line_in(copies[0][core], cell // plan[1])
    words = replaced(words, cell % plan[1], word)
    return with_cache(copies, core, with_line(copies[0][core], line, state, words))


def words_on_ways(copies, line):
    """Return the words of a line in the last letter back, gave or lost on a way out, None if there is none."""
    for out, _ in copies[2]:
        for letter in reversed(out):
            if letter[0] in ("back", "gave", "lost") and letter[1] == line:
                return letter[2]
    return None


def words_now(copies, line):
    """Return the words of the cells of a line now."""
    for cache in copies[0]:
        held = line_in(cache, line)
        if held is not None and held[1] == "owned":
            return held[2]
    words = words_on_ways(copies, line)
    return copies[1][line][0] if words is None else words


def all_now(copies):
    """Return the words of all cells now."""
    words = ()
    for line in range(len(copies[1])):
        words = words + words_now(copies, line)
    return words
