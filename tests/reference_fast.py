"""A second telling of copies, the fast machine and the steady rule, with lists that change."""

import copy

from tests.reference import summed


def reads(i):
    if i[0] in ("add", "sub", "and", "xor", "below", "swap", "addto"):
        return [i[2], i[3]]
    return {"load": [i[2]] if len(i) > 2 else [], "store": list(i[1:3]), "ifzero": list(i[1:2])}.get(i[0], [])


def written(i):
    return None if i[0] in ("store", "fence", "gap", "ifzero", "jump", "stop") else i[1]


class Home:
    def __init__(self, words):
        self.words, self.owner, self.sharers, self.busy, self.waiting = list(words), None, set(), None, []

    def frozen(self):
        busy = self.busy and (self.busy[0], self.busy[1], tuple(sorted(self.busy[2])))
        return tuple(self.words), self.owner, tuple(sorted(self.sharers)), busy, tuple(self.waiting)


class Net:
    def __init__(self, plan, memory, cores):
        self.plan, self.size = plan, plan[1]
        self.lines = [{} for _ in range(cores)]
        self.asked = [None] * cores
        self.homes = [Home(memory[at:at + self.size]) for at in range(0, plan[0], self.size)]
        self.out = [[] for _ in range(cores)]
        self.into = [[] for _ in range(cores)]

    def frozen(self):
        caches = tuple((tuple((n, *self.lines[c][n][:1], tuple(self.lines[c][n][1])) for n in sorted(self.lines[c])),
                        self.asked[c]) for c in range(len(self.lines)))
        return caches, tuple(h.frozen() for h in self.homes), tuple(
            (tuple(a), tuple(b)) for a, b in zip(self.out, self.into))

    def let(self, deed):
        kind, c = deed[0], deed[1]
        has = self.lines[c]
        if kind == "ask":
            n, how = deed[2:]
            if self.asked[c] is not None or (n in has and has[n][0] == "owned"):
                return False
            if how == "read" and n in has:
                return False
            return n in has or len(has) < self.plan[2]
        if kind == "drop":
            return deed[2] in has and (self.asked[c] is None or self.asked[c][0] != deed[2])
        if kind == "write":
            return has.get(deed[2] // self.size, [None])[0] == "owned"
        return bool(self.out[c] if kind == "out" else self.into[c])

    def all_deeds(self, c):
        return ([("ask", c, n, how) for n in range(len(self.homes)) for how in ("read", "own")]
                + [("drop", c, n) for n in range(len(self.homes))] + [("out", c), ("in", c)])

    def deeds(self, c):
        return [deed for deed in self.all_deeds(c) if self.let(deed)]

    def go(self, deed):
        """Do a deed; the line that is lost by it."""
        kind, c = deed[0], deed[1]
        has = self.lines[c]
        if kind == "ask":
            self.asked[c] = (deed[2], deed[3])
            self.out[c].append(("want", deed[2], deed[3]))
        elif kind == "drop":
            state, words = has.pop(deed[2])
            if state == "owned":
                self.out[c].append(("back", deed[2], tuple(words)))
            return deed[2]
        elif kind == "write":
            has[deed[2] // self.size][1][deed[2] % self.size] = deed[3]
        elif kind == "out":
            self.at_home(c, self.out[c].pop(0))
        else:
            return self.at_core(c, self.into[c].pop(0))
        return None

    def at_core(self, c, letter):
        has, n = self.lines[c], letter[1]
        if letter[0] == "have":
            has[n] = [letter[2], list(letter[3])]
            self.asked[c] = None
            return None
        owned = n in has and has[n][0] == "owned"
        lost = n if letter[0] == "lose" and n in has else None
        answer = ("gone", n)
        if owned:
            answer = ("gave" if letter[0] == "share" else "lost", n, tuple(has[n][1]))
        if letter[0] == "share" and owned:
            has[n][0] = "shared"
        if letter[0] == "lose":
            has.pop(n, None)
        self.out[c].append(answer)
        return lost

    def at_home(self, c, letter):
        n = letter[1]
        home = self.homes[n]
        if letter[0] == "want":
            if home.busy or home.waiting:
                home.waiting.append((c, letter[2]))
            else:
                self.begin(n, c, letter[2])
            return
        if letter[0] != "gone":
            home.words, home.owner = list(letter[2]), None
        if letter[0] == "back":
            return
        home.busy[2].discard(c)
        if letter[0] == "gave":
            home.sharers.add(c)
        if not home.busy[2]:
            b, kind, _ = home.busy
            home.busy = home.owner = None
            if kind == "read":
                home.sharers.add(b)
                self.into[b].append(("have", n, "shared", tuple(home.words)))
            else:
                self.grant(n, b)
            while home.waiting and not home.busy:
                self.begin(n, *home.waiting.pop(0))

    def grant(self, n, c):
        home = self.homes[n]
        home.owner, home.sharers = c, set()
        self.into[c].append(("have", n, "owned", tuple(home.words)))

    def begin(self, n, c, kind):
        home = self.homes[n]
        if kind == "read":
            if home.owner is not None:
                self.into[home.owner].append(("share", n))
                home.busy = (c, "read", {home.owner})
            else:
                home.sharers.add(c)
                self.into[c].append(("have", n, "shared", tuple(home.words)))
            return
        others = (home.sharers | {home.owner}) - {c, None}
        if others:
            for other in sorted(others):
                self.into[other].append(("lose", n))
            home.busy = (c, "own", others)
        else:
            self.grant(n, c)

    def now(self, cell):
        n, at = divmod(cell, self.size)
        for has in self.lines:
            if n in has and has[n][0] == "owned":
                return has[n][1][at]
        for out in self.out:
            for letter in reversed(out):
                if letter[0] in ("back", "gave", "lost") and letter[1] == n:
                    return letter[2][at]
        return self.homes[n].words[at]

    def memory(self):
        return tuple(self.now(cell) for cell in range(self.plan[0]))


class Fast:
    """Entries are dicts; the net has the copies."""

    def __init__(self, plan, book, memory):
        self.plan, self.book, self.net = plan, book, Net(plan, memory, len(book))
        self.cores = [dict(row=0, regs=[0] * 8, stores=[], next=0, tag=0, window=[], guesses=[1] * len(rows))
                      for rows in book]

    def twin(self):
        return copy.deepcopy(self)

    def frozen(self):
        return tuple(
            (k["row"], tuple(k["regs"]), tuple(k["stores"]), k["next"], k["tag"],
             tuple((e["tag"], e["row"], tuple(e["sources"]), e["cell"], e["word"], e["note"]) for e in k["window"]),
             tuple(k["guesses"])) for k in self.cores), self.net.frozen()

    def seen(self):
        return tuple((k["row"], tuple(k["regs"]), tuple(s[1:] for s in k["stores"])) for k in self.cores), \
            self.net.memory()

    def ended(self):
        return all(not k["stores"] and (k["row"] >= len(rows) or rows[k["row"]] == ("stop",))
                   for k, rows in zip(self.cores, self.book))

    def ins(self, c, entry):
        return self.book[c][entry["row"]]

    @staticmethod
    def words(entry):
        return [s[1] for s in entry["sources"]] if all(s[0] == "is" for s in entry["sources"]) else None

    def cell(self, c, entry):
        i, words = self.ins(c, entry), self.words(entry)
        return (words[-1] + i[-1]) % self.plan[0]

    def owned(self, c, cell):
        return self.net.lines[c].get(cell // self.net.size, [None])[0] == "owned"

    def take(self, c, at):
        """(word, note) of a load that may run."""
        k = self.cores[c]
        entry = k["window"][at]
        if any(self.ins(c, e)[0] in ("fence", "swap", "addto") for e in k["window"][:at]):
            return None
        cell = self.cell(c, entry)
        found = [(e["word"], ("window", e["tag"])) for e in k["window"][:at]
                 if self.ins(c, e)[0] == "store" and e["word"] is not None and e["cell"] == cell]
        if found:
            return found[-1]
        found = [(word, ("stores", tag)) for tag, place, word in k["stores"] if place == cell]
        if found:
            return found[-1]
        line = self.net.lines[c].get(cell // self.net.size)
        return line and (line[1][cell % self.net.size], ("line",))

    def let(self, deed):
        kind, c = deed[0], deed[1]
        k = self.cores[c]
        if kind == "fetch":
            return k["next"] < len(self.book[c]) and len(k["window"]) < self.plan[4]
        if kind == "run":
            at = [n for n, e in enumerate(k["window"]) if e["tag"] == deed[2]]
            if not at:
                return False
            entry = k["window"][at[0]]
            name = self.ins(c, entry)[0]
            if entry["word"] is not None or name in ("swap", "addto") or self.words(entry) is None:
                return False
            return name != "load" or self.take(c, at[0]) is not None
        if kind == "retire":
            if not k["window"]:
                return False
            entry = k["window"][0]
            name = self.ins(c, entry)[0]
            if name in ("swap", "addto"):
                return self.words(entry) is not None and not k["stores"] and self.owned(c, self.cell(c, entry))
            if entry["word"] is None or name == "stop":
                return False
            return not (name == "store" and len(k["stores"]) >= self.plan[3]) and not (name == "fence" and k["stores"])
        if kind == "flush":
            return bool(k["stores"]) and self.owned(c, k["stores"][0][1])
        return self.net.let(deed)

    def all_deeds(self, c):
        tags = range(self.cores[c]["tag"])
        return ([("fetch", c)] + [("run", c, tag) for tag in tags] + [("retire", c), ("flush", c)]
                + self.net.all_deeds(c))

    def deeds(self):
        return [deed for c in range(len(self.book)) for deed in self.all_deeds(c) if self.let(deed)]

    def strike(self, c, at):
        k = self.cores[c]
        k["next"] = k["window"][at]["row"]
        del k["window"][at:]

    def tell(self, c, tag, word):
        for e in self.cores[c]["window"]:
            e["sources"] = [("is", word) if s == ("from", tag) else s for s in e["sources"]]

    def renote(self, c, old, new):
        for e in self.cores[c]["window"]:
            if e["note"] == old:
                e["note"] = new

    def go(self, deed):
        kind, c = deed[0], deed[1]
        if kind in ("fetch", "run", "retire", "flush"):
            getattr(self, kind)(*deed[1:])
            return
        lost = self.net.go(deed)
        if lost is None:
            return
        for at, e in enumerate(self.cores[c]["window"]):
            if e["note"] == ("line",) and e["cell"] // self.net.size == lost:
                self.strike(c, at)
                return

    def fetch(self, c):
        k = self.cores[c]
        row = k["next"]
        i = self.book[c][row]
        sources = []
        for r in reads(i):
            source = ("is", k["regs"][r])
            for e in k["window"]:
                if written(self.ins(c, e)) == r:
                    source = ("from", e["tag"]) if e["word"] is None else ("is", e["word"])
            sources.append(source)
        word = {"set": i[-1], "jump": i[-1], "fence": 0, "gap": 0, "stop": 0}.get(i[0])
        k["next"] = row + 1
        note = None
        if i[0] == "jump":
            k["next"] = i[1]
        if i[0] == "stop":
            k["next"] = len(self.book[c])
        if i[0] == "ifzero":
            if k["guesses"][row] > 1:
                k["next"] = i[2]
            note = ("guess", k["next"])
        k["window"].append(dict(tag=k["tag"], row=row, sources=sources, cell=None, word=word, note=note))
        k["tag"] += 1

    def run(self, c, tag):
        k = self.cores[c]
        at = [n for n, e in enumerate(k["window"]) if e["tag"] == tag][0]
        entry = k["window"][at]
        i, words = self.ins(c, entry), self.words(entry)
        if i[0] == "ifzero":
            guess = k["guesses"][entry["row"]] + (1 if words[0] == 0 else -1)
            k["guesses"][entry["row"]] = min(3, max(0, guess))
            entry["word"] = i[2] if words[0] == 0 else entry["row"] + 1
            if entry["word"] != entry["note"][1]:
                del k["window"][at + 1:]
                k["next"] = entry["word"]
        elif i[0] == "store":
            entry["cell"], entry["word"] = self.cell(c, entry), words[0]
            for later in range(at + 1, len(k["window"])):
                e = k["window"][later]
                if self.ins(c, e)[0] == "load" and e["word"] is not None and e["cell"] == entry["cell"]:
                    if not (e["note"][0] == "window" and e["note"][1] > tag):
                        self.strike(c, later)
                        break
        elif i[0] == "load":
            word, note = self.take(c, at)
            entry["cell"], entry["word"], entry["note"] = self.cell(c, entry), word, note
            self.tell(c, tag, word)
        else:
            entry["word"] = summed(i[0], *words)
            self.tell(c, tag, entry["word"])

    def retire(self, c):
        k = self.cores[c]
        entry = k["window"].pop(0)
        i, word = self.ins(c, entry), entry["word"]
        if i[0] in ("swap", "addto"):
            cell = self.cell(c, entry)
            n, at = divmod(cell, self.net.size)
            word = self.net.lines[c][n][1][at]
            given = self.words(entry)[0]
            self.net.lines[c][n][1][at] = given if i[0] == "swap" else (word + given) % 65536
            self.tell(c, entry["tag"], word)
        if written(i) is not None:
            k["regs"][written(i)] = word
        k["row"] = word if i[0] in ("ifzero", "jump") else entry["row"] + 1
        if i[0] == "store":
            k["stores"].append((entry["tag"], entry["cell"], word))
            self.renote(c, ("window", entry["tag"]), ("stores", entry["tag"]))

    def flush(self, c):
        k = self.cores[c]
        tag, cell, word = k["stores"].pop(0)
        self.net.lines[c][cell // self.net.size][1][cell % self.net.size] = word
        self.renote(c, ("stores", tag), ("line",))

    def want(self, c):
        k = self.cores[c]
        if k["stores"]:
            cell = k["stores"][0][1]
            return None if self.owned(c, cell) else (cell // self.net.size, "own")
        window = k["window"]
        if window and self.ins(c, window[0])[0] in ("swap", "addto") and self.words(window[0]) is not None:
            cell = self.cell(c, window[0])
            return None if self.owned(c, cell) else (cell // self.net.size, "own")
        for e in window:
            if self.ins(c, e)[0] == "load" and e["word"] is None and self.words(e) is not None:
                n = self.cell(c, e) // self.net.size
                return None if n in self.net.lines[c] else (n, "read")
        return None

    def steady_deed(self, c):
        let = [deed for deed in self.all_deeds(c) if self.let(deed)]
        for name in ("retire", "flush", "run", "in", "out", "fetch"):
            found = [deed for deed in let if deed[0] == name]
            if found:
                return found[0]
        want = self.want(c)
        if want is None:
            return None
        if ("ask", c, *want) in let:
            return ("ask", c, *want)
        has = self.net.lines[c]
        if len(has) == self.plan[2] and self.net.asked[c] is None and want[0] not in has:
            return ("drop", c, min(has))
        return None
