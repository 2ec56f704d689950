"""The events of a short book, what is kept of their order, and where their words come from.

Sets of events are integers: the bit 1 << i stands for the event i. An order of events is a list with
the set of the events behind each event.
"""

from touchroad.books import SUMS, reads, result, writes
from touchroad.keeping import kept_order
from touchroad.places import no_places

TAKING = ("load", "swap", "addto")
GIVING = ("store", "swap", "addto")
EVENTS = ("load", "store", "swap", "addto", "fence")


def rows_before_stop(rows):
    """Return the rows of a core before its first stop."""
    for row, instruction in enumerate(rows):
        if instruction[0] == "stop":
            return rows[:row]
    return rows


def takes_read_cell(rows):
    """Return whether the cell of some event of a core without ifzero and jump depends on a read word."""
    read = {}
    for instruction in rows_before_stop(rows):
        name = instruction[0]
        if name in EVENTS and name != "fence" and instruction[-2] in read:
            return True
        from_read = name in SUMS and any([number in read for number in reads(instruction)])
        if name in TAKING or from_read:
            read[instruction[1]] = True
        elif writes(instruction) is not None:
            read.pop(instruction[1], None)
    return False


def is_short_book(book):
    """Return whether a book is short."""
    if any([instruction[0] in ("ifzero", "jump") for rows in book for instruction in rows]):
        return False
    return not any([takes_read_cell(rows) for rows in book])


class Sketch:
    """What a short book and a memory say of all runs.

    events are tuples (core, row, name, cell). Each word comes from a node, ("word", word),
    ("read", event) or ("sum", instruction, node, node), which is named by its index in nodes. taken and given
    have for each event the node of the word that it reads or writes, or None; last has for each core the
    nodes of its registers after its last row. writers has the events that write to each cell. kept and own
    are the orders that the plain machine keeps, in all and at each cell.
    """

    def __init__(self, book, memory):
        self.memory = memory
        self.events = []
        self.nodes = [("word", 0)]
        self.taken = []
        self.given = []
        self.last = []
        for core, rows in enumerate(book):
            self.last.append(add_core(self, core, rows_before_stop(rows)))
        self.writers = [[] for _ in memory]
        for event, node in enumerate(self.given):
            if node is not None:
                self.writers[self.events[event][3]].append(event)
        self.kept = kept_order("plain", book, self.events, no_places(book), no_places(book))
        self.own = own_order(self.events)


def new_node(sketch, node):
    """Add a node; return its index."""
    sketch.nodes.append(node)
    return len(sketch.nodes) - 1


def sum_node(sketch, instruction, one, other):
    """Return the node of the sum of two nodes."""
    first, second = sketch.nodes[one], sketch.nodes[other]
    if first[0] == "word" and second[0] == "word":
        return new_node(sketch, ("word", result(instruction, (first[1], second[1]))))
    return new_node(sketch, ("sum", instruction, one, other))


def add_event(sketch, core, row, instruction, registers):
    """Add an event of a core with these nodes of its registers."""
    name = instruction[0]
    if name == "fence":
        cell = -1
    else:
        # In a short book this word is never read, so its node is a word.
        base = sketch.nodes[registers[instruction[-2]]][1]
        cell = (base + instruction[-1]) % len(sketch.memory)
    event = len(sketch.events)
    sketch.events.append((core, row, name, cell))
    taken = new_node(sketch, ("read", event)) if name in TAKING else None
    given = registers[instruction[-3]] if name in GIVING else None
    if name == "addto":
        given = sum_node(sketch, ("add",), taken, given)
    sketch.taken.append(taken)
    sketch.given.append(given)


def add_core(sketch, core, rows):
    """Add the events of a core; return the list of the last nodes of its registers."""
    registers = [0] * 8
    for row, instruction in enumerate(rows):
        name = instruction[0]
        if name in EVENTS:
            add_event(sketch, core, row, instruction, registers)
        if name in TAKING:
            registers[instruction[1]] = sketch.taken[-1]
        elif name == "set":
            registers[instruction[1]] = new_node(sketch, ("word", instruction[2]))
        elif name in SUMS:
            one, other = registers[instruction[2]], registers[instruction[3]]
            registers[instruction[1]] = sum_node(sketch, instruction, one, other)
    return registers


def own_order(events):
    """Return the order of events of one core at one cell."""
    return [
        sum([
            1 << later
            for later in range(event + 1, len(events))
            if cell != -1 and events[later][0] == core and events[later][3] == cell
        ])
        for event, (core, _, _, cell) in enumerate(events)
    ]


def word_of_node(sketch, words, picked, node):
    """Return the word of a node by the words of the others, None if it is not known yet."""
    if node[0] == "word":
        return node[1]
    if node[0] == "sum":
        one, other = words[node[2]], words[node[3]]
        return None if one is None or other is None else result(node[1], (one, other))
    source = picked.get(node[1])
    if source is None:
        return None
    return sketch.memory[sketch.events[node[1]][3]] if source == -1 else words[sketch.given[source]]


def known_words(sketch, picked):
    """Return the list of the words of all nodes, None for those that are not known by the picked sources."""
    words = [None] * len(sketch.nodes)
    open_nodes = list(range(len(words)))
    growing = True
    while growing:
        for at in open_nodes:
            words[at] = word_of_node(sketch, words, picked, sketch.nodes[at])
        left = [at for at in open_nodes if words[at] is None]
        growing = len(left) < len(open_nodes)
        open_nodes = left
    return words
