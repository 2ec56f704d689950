"""A second telling of programs, behaviours and the viewing machine, to compare the package with."""

import itertools

from tests.reference import is_int, summed

SUMS = ("add", "sub", "and", "xor", "below")
TOUCHES = ("get", "put", "swap", "addto", "await", "whole")
READS = ("get", "await", "swap", "addto", "whole")
WRITES = ("put", "swap", "addto", "whole")
MODES = {"get": ("loose", "take"), "await": ("loose", "take"), "put": ("loose", "give"),
         "swap": ("loose", "take", "give", "both"), "addto": ("loose", "take", "give", "both")}
FORMS = {"set": "vw", "get": "vvwm", "put": "vvwm", "swap": "vvvwm", "addto": "vvvwm", "await": "vvwm", "whole": "",
         **{name: "vvv" for name in SUMS}}


def shape(value, level=1):
    """How many statements a value is and how many levels it has; an error if it is no statement."""
    assert type(value) is tuple and value and type(value[0]) is str
    name, parts = value[0], value[1:]
    if name in ("if", "again"):
        assert len(parts) == (3 if name == "if" else 2)
        assert is_int(parts[0], 0, 5 if name == "if" else 8)
        inside = []
        for body in parts[1:]:
            assert type(body) is tuple
            inside += [shape(statement) for statement in body]
        return 1 + sum(many for many, _ in inside), 1 + max([levels for _, levels in inside], default=0)
    assert name in FORMS and len(FORMS[name]) == len(parts)
    for kind, part in zip(FORMS[name], parts):
        if kind == "m":
            assert type(part) is str and part in MODES[name]
        else:
            assert is_int(part, 0, 5 if kind == "v" else 65535)
    return 1, 1


def is_hand(value):
    try:
        assert type(value) is tuple
        shapes = [shape(statement) for statement in value]
    except AssertionError:
        return False
    return sum(many for many, _ in shapes) <= 24 and all(levels <= 4 for _, levels in shapes)


def is_program(value):
    return type(value) is tuple and 0 < len(value) < 5 and all(is_hand(hand) for hand in value)


def unfolded(hand):
    """All (path, actions) of a hand."""
    told = [((), ())]
    for statement in hand:
        if statement[0] == "if":
            more = [((True,) + p, (("branch", statement[1], True),) + a) for p, a in unfolded(statement[2])]
            more += [((False,) + p, (("branch", statement[1], False),) + a) for p, a in unfolded(statement[3])]
        elif statement[0] == "again":
            more = unfolded(statement[2] * statement[1])
        else:
            more = [((), (statement,))]
        told = [(p + q, a + b) for p, a in told for q, b in more]
    return told


def paths_of(program):
    return sorted(itertools.product(*[[path for path, _ in unfolded(hand)] for hand in program]))


def actions_of(program, paths):
    return [list(dict(unfolded(hand))[path]) for hand, path in zip(program, paths)]


def is_short(program):
    for hand in program:
        for _, actions in unfolded(hand):
            read = set()
            for action in actions:
                name = action[0]
                if name in TOUCHES and name != "whole" and action[-3] in read:
                    return False
                if name in ("get", "swap", "addto"):
                    read.add(action[1])
                elif name in SUMS and (action[2] in read or action[3] in read):
                    read.add(action[1])
                elif name == "set" or name in SUMS:
                    read.discard(action[1])
    return True


def cell_of(touch, words, cells):
    return cells if touch[0] == "whole" else (words[touch[-3]] + touch[-2]) % cells


def does(action, words, old=None):
    """The words after an action that reads old, and the word that it writes."""
    words, name = list(words), action[0]
    written = None
    if name == "set":
        words[action[1]] = action[2]
    elif name in SUMS:
        words[action[1]] = summed(name, words[action[2]], words[action[3]])
    elif name == "put":
        written = words[action[1]]
    elif name == "get":
        words[action[1]] = old
    elif name == "swap":
        written, words[action[1]] = words[action[2]], old
    elif name == "addto":
        written, words[action[1]] = (words[action[2]] + old) % 65536, old
    elif name == "whole":
        written = 0
    return tuple(words), written


class Hands:
    """Where each hand is: a list of statements that are still to be done, the first first."""

    def __init__(self, program):
        self.rest = [list(hand) for hand in program]
        self.path = [() for _ in program]
        self.done = [0 for _ in program]
        self.words = [(0,) * 6 for _ in program]

    def copied(self, other):
        other.rest = [list(rest) for rest in self.rest]
        other.path, other.done, other.words = list(self.path), list(self.done), list(self.words)

    def unroll(self, h):
        while self.rest[h] and self.rest[h][0][0] == "again":
            _, many, body = self.rest[h].pop(0)
            self.rest[h][:0] = list(body) * many

    def next(self, h):
        self.unroll(h)
        if not self.rest[h]:
            return None
        first = self.rest[h][0]
        return ("branch", first[1], self.words[h][first[1]] != 0) if first[0] == "if" else first

    def move(self, h, old=None):
        """Do the next action, which reads old; the word that it writes."""
        action = self.next(h)
        first = self.rest[h].pop(0)
        self.done[h] += 1
        if action[0] == "branch":
            self.path[h] += (action[2],)
            self.rest[h][:0] = list(first[2] if action[2] else first[3])
            return None
        self.words[h], written = does(action, self.words[h], old)
        return written


class Interleaved(Hands):
    def __init__(self, program, memory):
        super().__init__(program)
        self.memory = list(memory)

    def twin(self):
        other = Interleaved((), self.memory)
        self.copied(other)
        return other

    def steps(self):
        found = []
        for h in range(len(self.rest)):
            action = self.next(h)
            if action is not None and not (action[0] == "await" and self.memory[
                    cell_of(action, self.words[h], len(self.memory))] != self.words[h][action[1]]):
                found.append(h)
        return found

    def go(self, h):
        action, cell = self.next(h), None
        if action[0] in TOUCHES:
            cell = cell_of(action, self.words[h], len(self.memory))
        hidden = cell is None or cell == len(self.memory)
        written = self.move(h, 0 if hidden else self.memory[cell])
        if written is not None and not hidden:
            self.memory[cell] = written

    def stand(self):
        return tuple(self.path), tuple(self.done), tuple(self.words), tuple(self.memory)

    def ended(self):
        return all(self.next(h) is None for h in range(len(self.rest)))

    def end(self):
        return tuple(self.words), tuple(self.memory)


class Viewing(Hands):
    """Versions are objects with names that never change; a view is a dict from cells to names."""

    def __init__(self, program, memory):
        super().__init__(program)
        self.cells = [[("first", cell)] for cell in range(len(memory) + 1)]
        zero = {cell: ("first", cell) for cell in range(len(memory) + 1)}
        self.word = {("first", cell): word for cell, word in enumerate(memory + (0,))}
        self.seen_by = {name: dict(zero) for name in self.word}
        self.updated = set()
        self.views = [dict(zero) for _ in program]

    def twin(self):
        other = Viewing((), ())
        self.copied(other)
        other.cells = [list(names) for names in self.cells]
        other.word = dict(self.word)
        other.seen_by = {name: dict(view) for name, view in self.seen_by.items()}
        other.updated = set(self.updated)
        other.views = [dict(view) for view in self.views]
        return other

    def merge(self, view, other):
        for cell, names in enumerate(self.cells):
            view[cell] = max(view[cell], other[cell], key=names.index)

    def steps(self):
        found = []
        for h in range(len(self.rest)):
            action = self.next(h)
            if action is None:
                continue
            if action[0] not in TOUCHES:
                found.append(("do", h))
                continue
            cell = cell_of(action, self.words[h], len(self.cells) - 1)
            names = self.cells[cell]
            for n, name in enumerate(names):
                if n < names.index(self.views[h][cell]) or (action[0] in WRITES and name in self.updated):
                    continue
                if action[0] == "await" and self.word[name] != self.words[h][action[1]]:
                    continue
                found.append(("touch", h, n))
        return sorted(found)

    def go(self, step):
        h, action = step[1], self.next(step[1])
        if step[0] == "do":
            self.move(h)
            return
        cell = cell_of(action, self.words[h], len(self.cells) - 1)
        name, own = self.cells[cell][step[2]], (h, self.done[h])
        written = self.move(h, self.word[name])
        view = self.views[h]
        if action[0] in READS:
            view[cell] = name
            if action[-1] in ("take", "both", "whole"):
                self.merge(view, self.seen_by[name])
        if action[0] in WRITES:
            self.cells[cell].insert(step[2] + 1, own)
            self.word[own] = written
            if action[0] in READS:
                self.updated.add(name)
            view[cell] = own
            new = {k: ("first", k) for k in range(len(self.cells))}
            new[cell] = own
            if action[0] in READS:
                self.merge(new, self.seen_by[name])
            if action[-1] in ("give", "both", "whole"):
                self.merge(new, view)
            self.seen_by[own] = new

    def stand(self):
        def indexes(view):
            return tuple(names.index(view[cell]) for cell, names in enumerate(self.cells))
        return (tuple((self.path[h], self.done[h], self.words[h], indexes(self.views[h])) for h in range(len(self.rest))),
                tuple(tuple((self.word[n], indexes(self.seen_by[n]), n in self.updated) for n in names) for names in self.cells))

    def ended(self):
        return all(self.next(h) is None for h in range(len(self.rest)))

    def end(self):
        return tuple(self.words), tuple(self.word[names[-1]] for names in self.cells[:-1])


class Told:
    """A behaviour of a program: its events, relations and words, by plain sets of pairs."""

    def __init__(self, program, memory, behaviour):
        self.program, self.memory = program, memory
        paths, reads, orders = behaviour
        self.reads, self.orders = dict(reads), orders
        self.actions = actions_of(program, paths)
        self.events = events_of(program, memory, paths)
        self.many = range(len(self.events))
        self.touch = [self.actions[h][at] for h, at, _, _ in self.events]
        self.precedes = {(i, k) for i in self.many for k in self.many if i < k and self.events[i][0] == self.events[k][0]}
        self.source = {(s, i) for i, s in reads if s != -1}
        self.synchronizes = {(g, k) for k in self.many for g in self.many if self.joins(g, k)}
        self.happens = closure(self.precedes | self.synchronizes)
        self.directly = {(i, k) for i in self.many for k in self.many if self.is_directly_under(i, k)}
        self.under = closure(self.directly)

    def reads_and_writes(self, i):
        return self.touch[i][0] in ("swap", "addto", "whole")

    def carries(self, u):
        """The events that an event which updates carries."""
        told, chain = set(), u
        while self.reads_and_writes(chain) and self.reads[chain] != -1 and self.reads[chain] not in told:
            chain = self.reads[chain]
            told.add(chain)
        return told

    def joins(self, g, k):
        if self.touch[g][-1] not in ("give", "both", "whole") or self.touch[k][-1] not in ("take", "both", "whole"):
            return False
        source = self.reads.get(k, -1)
        return source != -1 and (source == g or (self.reads_and_writes(source) and g in self.carries(source)))

    def earlier(self, i, k):
        """Whether a source, perhaps -1, is earlier than a write in the order of its cell."""
        order = self.orders[self.events[k][3]]
        return k in order and (i == -1 or (i in order and order.index(i) < order.index(k)))

    def is_directly_under(self, i, k):
        if self.events[i][3] != self.events[k][3]:
            return False
        if (i, k) in self.source or (self.touch[i][0] in WRITES and i != k and self.earlier(i, k)):
            return True
        return i in self.reads and k != i and self.touch[k][0] in WRITES and self.earlier(self.reads[i], k)

    def rule_one(self):
        return not any(i == k for i, k in closure(self.precedes | self.source))

    def misplaced(self):
        told = []
        for i in self.many:
            if self.reads_and_writes(i):
                order = self.orders[self.events[i][3]]
                before = order[order.index(i) - 1] if order.index(i) else -1
                if self.reads[i] != before:
                    told.append(i)
        return told

    def backs(self):
        return {(i, k) for i, k in self.happens if (k, i) in self.under}

    def run(self):
        """The words that the events write, and the words of the hands; only if rule (1) holds."""
        written, words, wrong = {}, [(0,) * 6 for _ in self.program], []
        at = [0 for _ in self.program]
        number = {(h, index): i for i, (h, index, _, _) in enumerate(self.events)}
        going = True
        while going:
            going = False
            for h, actions in enumerate(self.actions):
                while at[h] < len(actions):
                    action, i, old = actions[at[h]], number.get((h, at[h])), None
                    if i in self.reads:
                        source = self.reads[i]
                        if source != -1 and source not in written:
                            break
                        old = (self.memory + (0,))[self.events[i][3]] if source == -1 else written[source]
                    if action[0] == "branch" and (words[h][action[1]] != 0) != action[2]:
                        wrong.append(("branch", h, at[h]))
                    if action[0] == "await" and old != words[h][action[1]]:
                        wrong.append(("await", i))
                    words[h], word = does(action, words[h], old)
                    if word is not None:
                        written[i] = word
                    at[h] += 1
                    going = True
        return written, tuple(words), wrong

    def consistent(self):
        return self.rule_one() and not self.misplaced() and not self.backs() and not self.run()[2]

    def end(self):
        written, words, _ = self.run()
        return words, tuple(written[order[-1]] if order else word for order, word in zip(self.orders, self.memory))


def closure(pairs):
    found = set(pairs)
    while True:
        more = {(a, d) for a, b in found for c, d in pairs if b == c} - found
        if not more:
            return found
        found |= more


def events_of(program, memory, paths):
    """The events; the words on which cells depend come from sets and sums alone in a short program."""
    told = []
    for h, actions in enumerate(actions_of(program, paths)):
        words = (0,) * 6
        for index, action in enumerate(actions):
            if action[0] in TOUCHES:
                told.append((h, index, action[0], cell_of(action, words, len(memory))))
            words, _ = does(action, words, 0)
    return told


def behaviours_on(program, memory, paths):
    found = events_of(program, memory, paths)
    readers = [i for i, e in enumerate(found) if e[2] in READS]
    writers = [[i for i, e in enumerate(found) if e[2] in WRITES and e[3] == cell] for cell in range(len(memory) + 1)]
    sources = [[-1] + [w for w in writers[found[i][3]] if w != i] for i in readers]
    for picked in itertools.product(*sources):
        for orders in itertools.product(*[list(itertools.permutations(w)) for w in writers]):
            yield paths, tuple(zip(readers, picked)), orders


def how_many(program, memory):
    """How many behaviours there are on all paths."""
    total = 0
    for paths in paths_of(program):
        found = events_of(program, memory, paths)
        one = 1
        for cell in range(len(memory) + 1):
            at = [e for e in found if e[3] == cell]
            many = sum(e[2] in WRITES for e in at)
            for e in at:
                if e[2] in READS:
                    one *= 1 + many - (e[2] in WRITES)
            for number in range(2, many + 1):
                one *= number
        total += one
    return total


def all_behaviours(program, memory):
    return [behaviour for paths in paths_of(program) for behaviour in behaviours_on(program, memory, paths)]


STATEMENTS = ("set", "put", "put", "put", "get", "get", "get", "swap", "addto", "await", "whole", "sum")


def drawn_statement(draw, names, cells):
    name = draw.one_of(names)
    v, b, a, k = 2 + draw.below(3), draw.one_of((0, 1, 1, 2)), 5, draw.below(cells)
    if name == "set":
        return ("set", draw.one_of((1, 1, 2)), draw.one_of((1, 1, 2, 65535)))
    if name == "sum":
        return (draw.one_of(SUMS), draw.one_of((1, 2, 3)), draw.below(4), draw.below(4))
    if name == "whole":
        return ("whole",)
    mode = draw.one_of(MODES[name] + MODES[name][-1:])
    if name == "get":
        return ("get", v, a, k, mode)
    if name == "put":
        return ("put", b, a, k, mode)
    if name == "await":
        return ("await", draw.below(2), a, k, mode)
    return (name, v, b, a, k, mode)


def drawn_statements(draw, many, names, cells, depth):
    made = []
    while many > 0:
        kind = draw.below(8)
        if kind == 0 and depth:
            yes, no = draw.below(3), draw.below(2)
            made.append(("if", draw.one_of((1, 2, 2, 3)), drawn_statements(draw, yes, names, cells, depth - 1),
                         drawn_statements(draw, no, names, cells, depth - 1)))
            many -= 1 + yes + no
        elif kind == 1 and depth:
            made.append(("again", draw.one_of((0, 1, 2)), drawn_statements(draw, 1 + draw.below(2), names, cells, depth - 1)))
            many -= 2
        else:
            made.append(drawn_statement(draw, names, cells))
            many -= 1
    return tuple(made)


def drawn_program(draw, hands, many, names=STATEMENTS, cells=2, depth=2):
    made = []
    for hand in range(hands):
        first = (("set", 1, hand + 1),) if draw.below(2) else ()
        made.append(first + drawn_statements(draw, 1 + draw.below(many), names, cells, depth))
    return tuple(made)
