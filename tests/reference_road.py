"""The books of programs told again, by labels, and runs of them with the names of the writes."""

from tests.reference import summed


class Lines:
    """The lines of a core: (instruction, role), where the t of an instruction is a label."""

    def __init__(self, kind, hand):
        self.kind, self.lines, self.labels, self.count = kind, [], {}, 0
        self.add(hand)

    def label(self):
        self.count += 1
        return f"label {self.count}"

    def here(self, label):
        self.labels[label] = len(self.lines)

    def put(self, *instruction, role=None):
        self.lines.append((instruction, role))

    def add(self, statements):
        for statement in statements:
            name, parts = statement[0], statement[1:]
            if name == "if":
                other, behind = self.label(), self.label()
                self.put("ifzero", parts[0], other, role="branch")
                self.add(parts[1])
                self.put("jump", behind)
                self.here(other)
                self.add(parts[2])
                self.here(behind)
            elif name == "again":
                for _ in range(parts[0]):
                    self.add(parts[1])
            elif name == "await":
                again, behind = self.label(), self.label()
                self.here(again)
                self.put("load", 6, parts[1], parts[2], role="look")
                self.put("xor", 6, 6, parts[0])
                self.put("ifzero", 6, behind, role="leave")
                self.put("jump", again)
                self.here(behind)
            elif name == "whole":
                if self.kind != "bare":
                    self.put("fence", role="act")
            elif name in ("get", "put", "swap", "addto"):
                if self.kind == "sorted" and parts[-1] in ("give", "both"):
                    self.put("gap")
                self.put({"get": "load", "put": "store"}.get(name, name), *parts[:-1], role="act")
            else:
                self.put(*statement, role="act")

    def rows(self):
        return tuple(i[:-1] + (self.labels[i[-1]],) if i[0] in ("ifzero", "jump") else i for i, _ in self.lines)


def book_of(kind, program):
    return tuple(Lines(kind, hand).rows() for hand in program)


def roles_of(kind, program):
    return [[role for _, role in Lines(kind, hand).lines] for hand in program]


class Tagged:
    """A run of the plain book on the plain machine, or of the sorted book on the sorted machine.

    Each word in memory or among the late stores has the name (hand, done) of the action that wrote it.
    """

    def __init__(self, kind, program, memory):
        self.book, self.roles = book_of(kind, program), roles_of(kind, program)
        self.row, self.regs = [0] * len(program), [[0] * 8 for _ in program]
        self.done, self.paths = [0] * len(program), [[] for _ in program]
        self.late = [[] for _ in program]
        self.memory = [(word, None) for word in memory]
        self.orders = [[] for _ in range(len(memory) + 1)]
        self.sources, self.acts, self.kinds = {}, [], {}
        self.looked = [None] * len(program)

    def take(self, h, cell):
        mine = [(word, name) for k, word, name in self.late[h] if k == cell]
        return mine[-1] if mine else self.memory[cell]

    def write(self, cell, word, name):
        self.memory[cell] = (word, name)
        self.orders[cell].append(name)

    def go(self, step):
        h = step[1]
        if step[0] == "flush":
            at = 0 if len(step) == 2 else [k for k, _, _ in self.late[h]].index(step[2])
            self.write(*self.late[h].pop(at))
            return
        row = self.row[h]
        instruction, role = self.book[h][row], self.roles[h][row]
        name, parts, regs, own = instruction[0], instruction[1:], self.regs[h], (h, self.done[h])
        self.row[h] += 1
        if role == "act":
            self.kinds[own] = name
        if role in ("act", "branch") or (role == "leave" and regs[6] == 0):
            self.acts.append(own)
            self.done[h] += 1
        if name in ("load", "store", "swap", "addto"):
            cell = (regs[parts[-2]] + parts[-1]) % len(self.memory)
        if name == "set":
            regs[parts[0]] = parts[1]
        elif name in ("add", "sub", "and", "xor", "below"):
            regs[parts[0]] = summed(name, regs[parts[1]], regs[parts[2]])
        elif name == "load":
            regs[parts[0]], source = self.take(h, cell)
            if role == "act":
                self.sources[own] = source
            self.looked[h] = source
        elif name == "store":
            self.late[h].append((cell, regs[parts[0]], own))
        elif name in ("swap", "addto"):
            given, (old, source) = regs[parts[1]], self.memory[cell]
            self.sources[own] = source
            self.write(cell, given if name == "swap" else (given + old) % 65536, own)
            regs[parts[0]] = old
        elif name == "fence":
            self.sources[own] = self.orders[-1][-1] if self.orders[-1] else None
            self.orders[-1].append(own)
        elif name == "ifzero":
            if role == "branch":
                self.paths[h].append(regs[parts[0]] != 0)
            elif regs[6] == 0:
                self.sources[own] = self.looked[h]
            if regs[parts[0]] == 0:
                self.row[h] = parts[1]
        elif name == "jump":
            self.row[h] = parts[0]

    def behaviour(self):
        """The behaviour of the run: the events are numbered by hands and actions."""
        writes = [name for order in self.orders for name in order]
        number = {name: at for at, name in enumerate(sorted(set(self.sources) | set(writes)))}
        return (tuple(map(tuple, self.paths)), tuple(sorted((number[i], number.get(s, -1)) for i, s in self.sources.items())),
                tuple(tuple(number[name] for name in order) for order in self.orders))

    def end(self):
        return tuple(tuple(regs[:6]) for regs in self.regs), tuple(word for word, _ in self.memory)
