"""The sorted machine told again, and what the three machines do with inserted fences and gaps."""

import itertools

from tests.reference import Plain, ends_in, reached_from


class Sorted(Plain):
    """Late stores are [number, cell, word]; a gap is remembered as a border between numbers."""

    def __init__(self, book, memory):
        super().__init__(book, memory)
        self.count = [0] * len(book)
        self.borders = [[] for _ in book]

    def twin(self):
        other = Sorted(self.book, self.memory)
        other.row = list(self.row)
        other.regs = [list(r) for r in self.regs]
        other.stores = [[list(s) for s in stores] for stores in self.stores]
        other.count = list(self.count)
        other.borders = [list(b) for b in self.borders]
        return other

    def steps(self):
        found = []
        for c in range(len(self.book)):
            name = None if self.stopped(c) else self.book[c][self.row[c]][0]
            if name is not None and not (self.stores[c] and name in ("fence", "swap", "addto")):
                found.append(("do", c))
            for cell in range(len(self.memory)):
                mine = [n for n, k, _ in self.stores[c] if k == cell]
                if mine and not any(b > self.stores[c][0][0] and b <= mine[0] for b in self.borders[c]):
                    found.append(("flush", c, cell))
        return found

    def go(self, step):
        c = step[1]
        if step[0] == "flush":
            at = [k for _, k, _ in self.stores[c]].index(step[2])
            self.memory[step[2]] = self.stores[c].pop(at)[2]
            return
        name, parts = self.book[c][self.row[c]][0], self.book[c][self.row[c]][1:]
        if name == "store":
            self.row[c] += 1
            cell = (self.regs[c][parts[1]] + parts[2]) % len(self.memory)
            self.stores[c].append([self.count[c], cell, self.regs[c][parts[0]]])
            self.count[c] += 1
        elif name == "gap":
            self.row[c] += 1
            self.borders[c].append(self.count[c])
        elif name == "load":
            self.row[c] += 1
            cell = (self.regs[c][parts[1]] + parts[2]) % len(self.memory)
            mine = [w for _, k, w in self.stores[c] if k == cell]
            self.regs[c][parts[0]] = mine[-1] if mine else self.memory[cell]
        else:
            super().go(step)

    def marked(self, c):
        """The late stores of a core with a mark for each border that has one before it."""
        told = []
        if not self.stores[c]:
            return ()
        first = self.stores[c][0][0]
        borders = sorted({b for b in self.borders[c] if b > first})
        for number, cell, word in self.stores[c]:
            while borders and borders[0] <= number:
                borders.pop(0)
                told.append(None)
            told.append((cell, word))
        return tuple(told) + (None,) * len(borders)

    def stand(self):
        return (tuple((self.row[c], tuple(self.regs[c]), self.marked(c)) for c in range(len(self.book))),
                tuple(self.memory))


def sorted_stands(book, memory, most=10 ** 9):
    return reached_from(Sorted(book, memory), most)


def sorted_all_ends(book, memory):
    return ends_in(sorted_stands(book, memory))


def with_bars(book, fences, gaps):
    """The book with fences and gaps: each row gets a label, each t is the label of what begins there."""
    made = []
    for rows, own_fences, own_gaps in zip(book, fences, gaps):
        lines, begins = [], {}
        for row in range(len(rows) + 1):
            begins[row] = len(lines)
            lines += [("gap",)] if row in own_gaps else []
            lines += [("fence",)] if row in own_fences else []
            lines += [("row", rows[row])] if row < len(rows) else []
        made.append(tuple(
            line if line[0] != "row" else line[1][:-1] + (begins[line[1][-1]],) if line[1][0] in ("ifzero", "jump")
            else line[1] for line in lines))
    return tuple(made)


def all_places(book):
    """All places in the sequence of least_fences."""
    each = [[rows for many in range(len(core) + 2) for rows in itertools.combinations(range(len(core) + 1), many)]
            for core in book]
    return sorted(itertools.product(*each), key=lambda places: (sum(map(len, places)), places))


def no_bars(book):
    return tuple(() for _ in book)


def keeps(machine, book, found, i, k):
    """Whether a machine keeps the order of two events of one core, by the rule for one pair."""
    (core, row, name, cell), (other, later, next_name, next_cell) = found[i], found[k]
    if core != other or row >= later:
        return False
    between = [instruction[0] for instruction in book[core][row + 1:later]]
    strong = "fence" in between or "swap" in between or "addto" in between
    if machine != "one row" and name == "store" and next_name == "load" and not strong:
        return False
    if machine == "sorted" and name == next_name == "store" and cell != next_cell:
        return strong or "gap" in between
    return True
