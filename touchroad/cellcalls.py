"""The calls that a run of the plain machine makes of a cell, for arguments that have been checked."""

from touchroad.stands import access_cell, after_step, first_stand


class CellWatch:
    """The calls of a cell that a run has made so far.

    late has, for each core, its late stores as (cell, word, index of the step that did the store). is_plain tells
    whether no step used the cell in a way that a history of a register does not have.
    """

    def __init__(self, cores, cell):
        self.cell = cell
        self.calls = []
        self.late = [[] for _ in range(cores)]
        self.is_plain = True


def watch_access(watch, at, core, instruction, before):
    """Watch an instruction that a core does in the step with an index; before is (registers, memory) before it."""
    registers, memory = before
    if instruction[0] not in ("load", "store", "swap", "addto"):
        return
    cell = access_cell(instruction, registers, len(memory))
    if instruction[0] == "store":
        watch.late[core].append((cell, registers[instruction[1]], at))
    elif cell == watch.cell and instruction[0] == "load":
        if cell in [store[0] for store in watch.late[core]]:
            watch.is_plain = False
        watch.calls.append((core, ("get",), memory[cell], 2 * at, 2 * at + 1))
    elif cell == watch.cell:
        watch.is_plain = False


def watch_written(watch, at, core):
    """Watch the flush of a core in the step with an index."""
    cell, word, since = watch.late[core].pop(0)
    if cell == watch.cell:
        watch.calls.append((core, ("put", word), None, 2 * since, 2 * at + 1))


def calls_of_cell(book, memory, run, cell):
    """Return the history that the loads and stores of a cell make in a run, None if they make none."""
    watch = CellWatch(len(book), cell)
    stand = first_stand(book, memory)
    for at, step in enumerate(run):
        core = step[1]
        if step[0] == "flush":
            watch_written(watch, at, core)
        else:
            row, registers, _ = stand[0][core]
            watch_access(watch, at, core, book[core][row], (registers, stand[1]))
        stand = after_step(book, stand, step)
    if not watch.is_plain or len(watch.calls) > 10 or memory[cell] != 0:
        return None
    by_times = sorted([(made[3], made) for made in watch.calls])
    return tuple([call for _, call in by_times])
