"""The deeds of the fast machine, for arguments that have been checked.

A fast stand is (cores, copies).
"""

from touchroad.books import cell_of, writes
from touchroad.caches import all_now, begun_copies, owns_cell, word_in, written_copies
from touchroad.letters import after_deed, is_let_deed, let_deeds_of
from touchroad.stands import ZEROS, changed_word, is_stopped
from touchroad.values import is_between, is_integer, replaced
from touchroad.windows import after_run, can_fetch, fetched, ready_words, run_result, struck_by_loss
from touchroad.windows import with_note, with_word


def begun_stand(plan, book, memory):
    """Return the first fast stand."""
    cores = tuple([(0, ZEROS, (), 0, 0, (), (1,) * len(rows)) for rows in book])
    return cores, begun_copies(plan, memory, len(book))


def plain_stand(stand):
    """Return the plain stand that is seen of a fast stand."""
    cores = [(core[0], core[1], tuple([store[1:] for store in core[2]])) for core in stand[0]]
    return tuple(cores), all_now(stand[1])


def is_seen_ended(book, stand):
    """Return whether the plain stand that is seen of a fast stand has ended."""
    return all([is_stopped(rows, core[0]) and len(core[2]) == 0 for rows, core in zip(book, stand[0])])


def can_run(plan, rows, stand, core, index):
    """Return whether the run of the entry at an index of a window is let."""
    return run_result(plan, rows, stand[0][core], stand[1][0][core], index) is not None


def runs_of(plan, rows, stand, core):
    """Return the list of the runs of a core that are let, by their tags."""
    window = stand[0][core][5]
    return [
        ("run", core, entry[0])
        for index, entry in enumerate(window)
        if can_run(plan, rows, stand, core, index)
    ]


def first_exchange(plan, rows, window):
    """Return the cell of a swap or addto that is first in a window and whose sources are words, or None."""
    if len(window) == 0 or rows[window[0][1]][0] not in ("swap", "addto"):
        return None
    words = ready_words(window[0][2])
    return None if words is None else cell_of(plan[0], words[1], rows[window[0][1]][4])


def can_retire(plan, rows, stand, core):
    """Return whether the first entry of a window can retire."""
    stores, window = stand[0][core][2], stand[0][core][5]
    if len(window) == 0:
        return False
    name = rows[window[0][1]][0]
    if name in ("swap", "addto"):
        cell = first_exchange(plan, rows, window)
        return cell is not None and len(stores) == 0 and owns_cell(plan, stand[1][0][core], cell)
    if window[0][4] is None or name == "stop":
        return False
    if name == "store":
        return len(stores) < plan[3]
    return name != "fence" or len(stores) == 0


def can_flush_fast(plan, stand, core):
    """Return whether the oldest late store of a core can be written."""
    stores = stand[0][core][2]
    return len(stores) > 0 and owns_cell(plan, stand[1][0][core], stores[0][1])


def index_of_tag(window, tag):
    """Return the index of the entry with a tag, None if there is none."""
    for index, entry in enumerate(window):
        if entry[0] == tag:
            return index
    return None


def is_let_run(plan, rows, stand, core, tag):
    """Return whether any object is the tag of an entry that a core can run."""
    index = index_of_tag(stand[0][core][5], tag) if is_integer(tag) else None
    return index is not None and can_run(plan, rows, stand, core, index)


def is_let_fast(plan, book, stand, deed):
    """Return whether any object is a deed that is let."""
    if not isinstance(deed, tuple) or len(deed) < 2 or not isinstance(deed[0], str):
        return False
    name, core = deed[0], deed[1]
    if not is_between(core, 0, len(book) - 1) or name == "write":
        return False
    if name == "run":
        return len(deed) == 3 and is_let_run(plan, book[core], stand, core, deed[2])
    if name == "fetch":
        return len(deed) == 2 and can_fetch(plan, book[core], stand[0][core])
    if name == "retire":
        return len(deed) == 2 and can_retire(plan, book[core], stand, core)
    if name == "flush":
        return len(deed) == 2 and can_flush_fast(plan, stand, core)
    return is_let_deed(plan, stand[1], deed)


def let_deeds(plan, book, stand):
    """Return the list of the deeds that are let."""
    found = []
    for core, rows in enumerate(book):
        if can_fetch(plan, rows, stand[0][core]):
            found.append(("fetch", core))
        found.extend(runs_of(plan, rows, stand, core))
        if can_retire(plan, rows, stand, core):
            found.append(("retire", core))
        if can_flush_fast(plan, stand, core):
            found.append(("flush", core))
        found.extend(let_deeds_of(plan, stand[1], core))
    return found


def after_exchange(plan, instruction, copies, core, entry, window):
    """Return (copies, window, word) after a swap or addto that was first in a window was done."""
    given, base = ready_words(entry[2])
    cell = cell_of(plan[0], base, instruction[4])
    word = word_in(plan, copies[0][core], cell)
    copies = written_copies(plan, copies, core, cell, changed_word(instruction, word, given))
    return copies, with_word(window, entry[0], word), word


def after_retire(plan, rows, stand, core):
    """Return the stand after the first entry of a window retired."""
    cores, copies = stand
    _, registers, stores, following, tag, window, guesses = cores[core]
    entry, window = window[0], window[1:]
    instruction = rows[entry[1]]
    word = entry[4]
    if instruction[0] in ("swap", "addto"):
        copies, window, word = after_exchange(plan, instruction, copies, core, entry, window)
    register = writes(instruction)
    if register is not None:
        registers = replaced(registers, register, word)
    row = word if instruction[0] in ("ifzero", "jump") else entry[1] + 1
    if instruction[0] == "store":
        stores = stores + ((entry[0], entry[3], word),)
        window = with_note(window, ("window", entry[0]), ("stores", entry[0]))
    return replaced(cores, core, (row, registers, stores, following, tag, window, guesses)), copies


def after_fast_flush(plan, stand, core):
    """Return the stand after the oldest late store of a core was written to its cache."""
    cores, copies = stand
    row, registers, stores, following, tag, window, guesses = cores[core]
    old, cell, word = stores[0]
    window = with_note(window, ("stores", old), ("line",))
    copies = written_copies(plan, copies, core, cell, word)
    return replaced(cores, core, (row, registers, stores[1:], following, tag, window, guesses)), copies


def after_copy_deed(plan, stand, deed):
    """Return the stand after an ask, drop, out or in."""
    cores, copies = stand
    copies, line = after_deed(plan, copies, deed)
    if line is None:
        return cores, copies
    return replaced(cores, deed[1], struck_by_loss(plan, cores[deed[1]], line)), copies


def after_fast(plan, book, stand, deed):
    """Return the stand after a deed that is let."""
    name, core = deed[0], deed[1]
    rows, cores = book[core], stand[0]
    if name == "fetch":
        return replaced(cores, core, fetched(rows, cores[core])), stand[1]
    if name == "run":
        index = index_of_tag(cores[core][5], deed[2])
        return replaced(cores, core, after_run(plan, rows, cores[core], stand[1][0][core], index)), stand[1]
    if name == "retire":
        return after_retire(plan, rows, stand, core)
    if name == "flush":
        return after_fast_flush(plan, stand, core)
    return after_copy_deed(plan, stand, deed)


def step_of(deed):
    """Return the plain step that a deed is, None if it is none."""
    if deed[0] == "retire":
        return ("do", deed[1])
    return ("flush", deed[1]) if deed[0] == "flush" else None
