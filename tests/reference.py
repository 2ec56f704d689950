"""A second, plain telling of what the document says, to compare the package with."""

FORMS = {
    "set": "rw", "add": "rrr", "sub": "rrr", "and": "rrr", "xor": "rrr", "below": "rrr", "load": "rrw",
    "store": "rrw", "swap": "rrrw", "addto": "rrrw", "fence": "", "gap": "", "ifzero": "rt", "jump": "t", "stop": "",
}


def is_int(value, low, high):
    return type(value) is int and low <= value <= high


def is_instruction(value, rows):
    if type(value) is not tuple or not value or type(value[0]) is not str or value[0] not in FORMS:
        return False
    form = FORMS[value[0]]
    highest = {"r": 7, "w": 65535, "t": rows}
    return len(form) + 1 == len(value) and all(is_int(p, 0, highest[f]) for p, f in zip(value[1:], form))


def is_book(value):
    return type(value) is tuple and 0 < len(value) < 5 and all(
        type(rows) is tuple and len(rows) < 41 and all(is_instruction(i, len(rows)) for i in rows) for rows in value)


def is_memory(value):
    return type(value) is tuple and 0 < len(value) < 33 and all(is_int(w, 0, 65535) for w in value)


def is_plan(value):
    if type(value) is not tuple or len(value) != 5 or not all(type(part) is int for part in value):
        return False
    cells, line, room, late, ahead = value
    return (0 < cells < 33 and line in (1, 2, 4) and cells % line == 0 and 0 < room < 5 and 0 < late < 5
            and 0 < ahead < 7)


def summed(name, one, other):
    return {"add": (one + other) % 65536, "sub": (one - other) % 65536, "and": one & other, "xor": one ^ other,
            "below": int(one < other)}[name]


class Plain:
    """The plain machine; with late=False the one-row machine."""

    def __init__(self, book, memory, late=True):
        self.book, self.memory, self.late = book, list(memory), late
        self.row = [0] * len(book)
        self.regs = [[0] * 8 for _ in book]
        self.stores = [[] for _ in book]

    def twin(self):
        other = Plain(self.book, self.memory, self.late)
        other.row = list(self.row)
        other.regs = [list(r) for r in self.regs]
        other.stores = [list(s) for s in self.stores]
        return other

    def stopped(self, c):
        return self.row[c] >= len(self.book[c]) or self.book[c][self.row[c]] == ("stop",)

    def ended(self):
        return all(self.stopped(c) and not self.stores[c] for c in range(len(self.book)))

    def steps(self):
        found = []
        for c in range(len(self.book)):
            if not self.stopped(c) and not (
                    self.stores[c] and self.book[c][self.row[c]][0] in ("fence", "swap", "addto")):
                found.append(("do", c))
            if self.stores[c]:
                found.append(("flush", c))
        return found

    def go(self, step):
        c = step[1]
        if step[0] == "flush":
            cell, word = self.stores[c].pop(0)
            self.memory[cell] = word
            return
        regs = self.regs[c]
        ins = self.book[c][self.row[c]]
        name, parts = ins[0], ins[1:]
        self.row[c] += 1
        if name == "set":
            regs[parts[0]] = parts[1]
        elif name in ("add", "sub", "and", "xor", "below"):
            regs[parts[0]] = summed(name, regs[parts[1]], regs[parts[2]])
        elif name == "load":
            cell = (regs[parts[1]] + parts[2]) % len(self.memory)
            words = [w for k, w in self.stores[c] if k == cell]
            regs[parts[0]] = words[-1] if words else self.memory[cell]
        elif name == "store":
            cell = (regs[parts[1]] + parts[2]) % len(self.memory)
            self.stores[c].append((cell, regs[parts[0]]))
            if not self.late:
                self.go(("flush", c))
        elif name in ("swap", "addto"):
            r, b, a, k = parts
            cell = (regs[a] + k) % len(self.memory)
            given, old = regs[b], self.memory[cell]
            self.memory[cell] = given if name == "swap" else (old + given) % 65536
            regs[r] = old
        elif name == "ifzero":
            if regs[parts[0]] == 0:
                self.row[c] = parts[1]
        elif name == "jump":
            self.row[c] = parts[0]

    def stand(self):
        return (tuple((self.row[c], tuple(self.regs[c]), tuple(self.stores[c])) for c in range(len(self.book))),
                tuple(self.memory))

    def end(self):
        return tuple(tuple(r) for r in self.regs), tuple(self.memory)


def reached_from(first, most=10 ** 9):
    """Each stand that can be reached from a machine, with the machine at it; None if there are more than most."""
    found = {first.stand(): first}
    waiting = [first]
    while waiting:
        machine = waiting.pop()
        for step in machine.steps():
            other = machine.twin()
            other.go(step)
            if other.stand() not in found:
                if len(found) == most:
                    return None
                found[other.stand()] = other
                waiting.append(other)
    return found


def ends_in(stands):
    return sorted({machine.end() for machine in stands.values() if machine.ended()})


def is_stuck_somewhere(stands):
    """Whether some stand leads to no end, by following the steps onward again and again."""
    good = {stand for stand, machine in stands.items() if machine.ended()}
    onward = {}
    for stand, machine in stands.items():
        onward[stand] = []
        for step in machine.steps():
            other = machine.twin()
            other.go(step)
            onward[stand].append(other.stand())
    growing = True
    while growing:
        more = {stand for stand in stands if stand not in good and any(o in good for o in onward[stand])}
        good |= more
        growing = bool(more)
    return len(good) < len(stands)


def all_stands(book, memory, late=True, most=10 ** 9):
    return reached_from(Plain(book, memory, late), most)


def all_ends(book, memory, late=True):
    return ends_in(all_stands(book, memory, late))
