"""What happens in the window of a core of the fast machine, for arguments that have been checked.

A core is (row, registers, stores, next, tag, window, guesses); an entry of the window is
(tag, row, sources, cell, word, note).
"""

from touchroad.books import cell_of, reads, result, writes
from touchroad.caches import line_in
from touchroad.stands import ALONE
from touchroad.values import replaced


def source_for(rows, registers, window, register):
    """Return the source of a register for an entry that comes after a window."""
    for entry in reversed(window):
        if writes(rows[entry[1]]) == register:
            return ("from", entry[0]) if entry[4] is None else ("is", entry[4])
    return ("is", registers[register])


def word_at_once(instruction):
    """Return the word of an instruction that is done when it is fetched, otherwise None."""
    if instruction[0] == "set":
        return instruction[2]
    if instruction[0] == "jump":
        return instruction[1]
    return 0 if instruction[0] in ("fence", "gap", "stop") else None


def row_behind(rows, row, guess):
    """Return the row that is fetched after a row with a guess."""
    instruction = rows[row]
    if instruction[0] == "stop":
        return len(rows)
    if instruction[0] == "jump":
        return instruction[1]
    return instruction[2] if instruction[0] == "ifzero" and guess >= 2 else row + 1


def can_fetch(plan, rows, core):
    """Return whether a core can fetch."""
    return core[3] < len(rows) and len(core[5]) < plan[4]


def fetched(rows, core):
    """Return a core after a fetch."""
    row, registers, stores, at, tag, window, guesses = core
    instruction = rows[at]
    sources = tuple([source_for(rows, registers, window, number) for number in reads(instruction)])
    following = row_behind(rows, at, guesses[at])
    note = ("guess", following) if instruction[0] == "ifzero" else None
    entry = (tag, at, sources, None, word_at_once(instruction), note)
    return row, registers, stores, following, tag + 1, window + (entry,), guesses


def ready_words(sources):
    """Return the tuple of the words of sources, None if one of them is not a word yet."""
    if not all([source[0] == "is" for source in sources]):
        return None
    return tuple([source[1] for source in sources])


def with_word(window, tag, word):
    """Return a window in which the sources from a tag became a word."""
    return tuple([
        (entry[0], entry[1], tuple([("is", word) if source == ("from", tag) else source for source in entry[2]]),
         entry[3], entry[4], entry[5])
        for entry in window
    ])


def with_note(window, old, new):
    """Return a window in which a note became another one."""
    return tuple([entry[:5] + (new if entry[5] == old else entry[5],) for entry in window])


def struck(core, index):
    """Return a core whose window is struck from the entry at an index on."""
    row, registers, stores, _, tag, window, guesses = core
    return row, registers, stores, window[index][1], tag, window[:index], guesses


def struck_by_loss(plan, core, line):
    """Return a core after it lost a line."""
    for index, entry in enumerate(core[5]):
        if entry[5] == ("line",) and entry[3] // plan[1] == line:
            return struck(core, index)
    return core


def struck_by_store(rows, core, index):
    """Return a core after the store at an index of its window was run."""
    window = core[5]
    tag, cell = window[index][0], window[index][3]
    for at in range(index + 1, len(window)):
        entry = window[at]
        if rows[entry[1]][0] != "load" or entry[4] is None or entry[3] != cell:
            continue
        # A load that took the word of a younger store did not read too early.
        if entry[5][0] != "window" or entry[5][1] <= tag:
            return struck(core, at)
    return core


def load_result(plan, rows, core, cache, index):
    """Return (cell, word, note) of a load in a window whose sources are words, None if it is not let."""
    _, at, sources, _, _, _ = core[5][index]
    earlier = core[5][:index]
    if any([rows[entry[1]][0] in ALONE for entry in earlier]):
        return None
    cell = cell_of(plan[0], sources[0][1], rows[at][3])
    for entry in reversed(earlier):
        if rows[entry[1]][0] == "store" and entry[4] is not None and entry[3] == cell:
            return cell, entry[4], ("window", entry[0])
    for tag, place, word in reversed(core[2]):
        if place == cell:
            return cell, word, ("stores", tag)
    held = line_in(cache, cell // plan[1])
    return None if held is None else (cell, held[2][cell % plan[1]], ("line",))


def run_result(plan, rows, core, cache, index):
    """Return (cell, word, note) of the entry at an index after its run, None if the run is not let."""
    _, at, sources, _, word, note = core[5][index]
    instruction = rows[at]
    words = ready_words(sources)
    if word is not None or words is None or instruction[0] in ALONE:
        return None
    if instruction[0] == "load":
        return load_result(plan, rows, core, cache, index)
    if instruction[0] == "store":
        return cell_of(plan[0], words[1], instruction[3]), words[0], None
    if instruction[0] == "ifzero":
        return None, instruction[2] if words[0] == 0 else at + 1, note
    return None, result(instruction, words), None


def after_branch(core, index):
    """Return a core after the ifzero at an index of its window was run."""
    row, registers, stores, following, tag, window, guesses = core
    _, at, sources, _, word, note = window[index]
    guess = guesses[at]
    guesses = replaced(guesses, at, min(guess + 1, 3) if sources[0][1] == 0 else max(guess - 1, 0))
    if word != note[1]:
        window, following = window[:index + 1], word
    return row, registers, stores, following, tag, window, guesses


def after_run(plan, rows, core, cache, index):
    """Return a core after a run that is let."""
    row, registers, stores, following, tag, window, guesses = core
    cell, word, note = run_result(plan, rows, core, cache, index)
    entry = window[index][:3] + (cell, word, note)
    window = with_word(replaced(window, index, entry), entry[0], word)
    core = (row, registers, stores, following, tag, window, guesses)
    if rows[entry[1]][0] == "ifzero":
        return after_branch(core, index)
    if rows[entry[1]][0] == "store":
        return struck_by_store(rows, core, index)
    return core
