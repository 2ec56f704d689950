import itertools
import unittest

from touchroad.ends import ends, run_leads
from touchroad.errors import InvalidBook, InvalidEnd, InvalidMemory, InvalidPaper, NotShort
from touchroad.events import events
from touchroad.papers import comes, paper_size, paper_takes
from tests.helpers import WRONG, Draw, Odd, check_boolean, check_examples, check_raises, deep, same, variants
from tests.reference import summed
from tests.test_events import CROSSED, READS, WRITES, is_kept, short_books

EXAMPLES = """
>>> from touchroad.papers import comes, paper_size, paper_takes
>>> crossed = ((("set", 1, 1), ("store", 1, 0, 0), ("load", 2, 0, 1)), (("set", 1, 1), ("store", 1, 0, 1), ("load", 2, 0, 0)))
>>> handed = ((("set", 1, 1), ("store", 1, 0, 0), ("store", 1, 0, 1)), (("load", 1, 0, 1), ("load", 2, 0, 0)))
>>> none = ((0, 1, 0, 0, 0, 0, 0, 0), (0, 1, 0, 0, 0, 0, 0, 0))
>>> odd = ((0, 1, 0, 0, 0, 0, 0, 0), (0, 1, 0, 0, 0, 0, 0, 0))
>>> against = ("read", 2, ((-1, ("word", 1, 1)), (1, ("read", 3, ((-1, ("ring", "behind", (0, 1, 2, 3))), (0, ("word", 1, 2)))))))
>>> [paper_takes(handed, (0, 0), (odd, (1, 1)), against), paper_size(against), comes(handed, (0, 0), (odd, (1, 1)))[0], comes(crossed, (0, 0), (none, (1, 1)))[0], paper_takes(handed, (0, 0), (odd, (1, 1)), against[:2] + (against[2][1:],))]
[True, 3, 'paper', 'run', False]
"""

HANDED = ((("set", 1, 1), ("store", 1, 0, 0), ("store", 1, 0, 1)), (("load", 1, 0, 1), ("load", 2, 0, 0)))
ODD = (((0, 1, 0, 0, 0, 0, 0, 0), (0, 1, 0, 0, 0, 0, 0, 0)), (1, 1))
AGAINST = ("read", 2, ((-1, ("word", 1, 1)), (1, ("read", 3, ((-1, ("ring", "behind", (0, 1, 2, 3))), (0, ("word", 1, 2)))))))


def is_int(value, low, high):
    return type(value) is int and low <= value <= high


class Checker:
    """A second checker: it goes by the words of the document, pair by pair."""

    def __init__(self, book, memory, end):
        self.book, self.memory, self.end = book, memory, end
        self.events = events(book, memory)
        self.number = {(e[0], e[1]): i for i, e in enumerate(self.events)}

    def writers(self, cell):
        return [i for i, e in enumerate(self.events) if e[2] in WRITES and e[3] == cell]

    def takes(self, paper, picked=None, pairs=()):
        picked = picked or {}
        last = len(self.events) - 1
        if type(paper) is not tuple or not paper or type(paper[0]) is not str:
            return False
        if paper[0] == "read" and len(paper) == 3:
            _, i, parts = paper
            if not is_int(i, 0, last) or self.events[i][2] not in READS or i in picked or type(parts) is not tuple:
                return False
            sources = [-1] + [w for w in self.writers(self.events[i][3]) if w != i]
            if not all(type(p) is tuple and len(p) == 2 and type(p[0]) is int for p in parts):
                return False
            return [p[0] for p in parts] == sources and all(self.takes(p[1], {**picked, i: p[0]}, pairs) for p in parts)
        if paper[0] == "first" and len(paper) == 5:
            _, i, k, one, other = paper
            if not is_int(i, 0, last) or not is_int(k, 0, last) or i == k or self.events[i][3] != self.events[k][3]:
                return False
            if self.events[i][2] not in WRITES or self.events[k][2] not in WRITES or {(i, k), (k, i)} & set(pairs):
                return False
            return self.takes(one, picked, pairs + ((i, k),)) and self.takes(other, picked, pairs + ((k, i),))
        if paper[0] == "ring" and len(paper) == 3:
            _, kind, ring = paper
            if type(kind) is not str or kind not in ("behind", "own") or type(ring) is not tuple or len(ring) < 2:
                return False
            if not all(is_int(i, 0, last) for i in ring) or len(set(ring)) < len(ring):
                return False
            return all(self.pair(kind, picked, pairs, i, k) for i, k in zip(ring, ring[1:] + ring[:1]))
        if paper[0] == "word" and len(paper) == 3:
            _, core, register = paper
            if not is_int(core, 0, len(self.book) - 1) or not is_int(register, 0, 7):
                return False
            word = self.register(core, len(self.book[core]), register, picked, ())
            return word is not None and word != self.end[0][core][register]
        if paper[0] == "cell" and len(paper) == 2 and is_int(paper[1], 0, len(self.memory) - 1):
            word = self.last_word(paper[1], picked, pairs)
            return word is not None and word != self.end[1][paper[1]]
        return False

    def pair(self, kind, picked, pairs, i, k):
        one, other = self.events[i], self.events[k]
        if (i, k) in pairs:
            return True
        if i in picked and other[2] in WRITES and other[3] == one[3] and (picked[i] == -1 or (picked[i], k) in pairs):
            return True
        if kind == "behind":
            return is_kept(self.events, i, k) or (picked.get(k) == i and one[0] != other[0])
        if one[3] != other[3] or one[3] == -1:
            return False
        return (one[0] == other[0] and i < k) or picked.get(k) == i

    def register(self, core, row, register, picked, round_):
        """The word of a register before a row, None if it is not known."""
        rows = self.book[core]
        if ("stop",) in rows:
            row = min(row, rows.index(("stop",)))
        for at in range(row - 1, -1, -1):
            ins = rows[at]
            if ins[0] in ("store", "fence", "gap") or ins[1] != register:
                continue
            if ins[0] == "set":
                return ins[2]
            if ins[0] in READS:
                return self.read(self.number[(core, at)], picked, round_)
            words = [self.register(core, at, r, picked, round_) for r in ins[2:]]
            return None if None in words else summed(ins[0], *words)
        return 0

    def read(self, i, picked, round_):
        if i not in picked or i in round_:
            return None
        if picked[i] == -1:
            return self.memory[self.events[i][3]]
        return self.written(picked[i], picked, round_ + (i,))

    def written(self, i, picked, round_):
        core, row, name, _ = self.events[i]
        given = self.register(core, row, self.book[core][row][-3], picked, round_)
        if name != "addto":
            return given
        old = self.read(i, picked, round_)
        return None if old is None or given is None else (old + given) % 65536

    def last_word(self, cell, picked, pairs):
        writers = self.writers(cell)
        if not writers:
            return self.memory[cell]
        for last in writers:
            leading = {last}
            for _ in writers:
                leading |= {a for a, b in pairs if b in leading}
            if not any(a == last for a, _ in pairs) and leading >= set(writers):
                return self.written(last, picked, ())
        return None


def candidate_ends(book, memory, most):
    """Ends that come, and others that differ from them in words that are near."""
    draw, found = Draw(len(book) + sum(memory)), ends(book, memory)
    told = {one: True for one in found[:most]}
    places = [(c, r) for c in range(len(book)) for r in range(8)]
    words = sorted({w for one in found for regs in one[0] for w in regs} | {w for one in found for w in one[1]})[:6]
    for _ in range(most):
        registers, cells = draw.one_of(found)
        core, register = draw.one_of([place for place in places if any(f[0][place[0]][place[1]] for f in found)] or places)
        word = draw.one_of(words + [4242])
        if draw.below(3):
            row = registers[core][:register] + (word,) + registers[core][register + 1:]
            registers = registers[:core] + (row,) + registers[core + 1:]
        else:
            cell = draw.below(len(cells))
            cells = cells[:cell] + (word,) + cells[cell + 1:]
        told[(registers, cells)] = True
    for one, other in zip(found, found[1:]):
        told[(one[0], other[1])] = True
        told[(one[0][:1] + other[0][1:], one[1])] = True
    return found, list(told)[:4 * most]


def leaves(paper):
    if paper[0] == "read":
        return sum(leaves(part[1]) for part in paper[2])
    return leaves(paper[3]) + leaves(paper[4]) if paper[0] == "first" else 1


class Comes(unittest.TestCase):
    def both(self, book, memory, end, found):
        kind, told = comes(book, memory, end)
        self.assertEqual(kind, "run" if end in found else "paper")
        if kind == "run":
            self.assertIs(run_leads(book, memory, end, told), True)
            return None
        self.assertIs(paper_takes(book, memory, end, told), True)
        self.assertTrue(Checker(book, memory, end).takes(told))
        self.assertEqual(paper_size(told), leaves(told))
        return told

    def test_examples(self):
        check_examples(self, EXAMPLES)

    def test_each_end_has_a_run_or_a_paper(self):
        papers = 0
        for book, memory, found_events, _ in short_books(61, 60):
            found, others = candidate_ends(book, memory, 10)
            for end in others:
                papers += self.both(book, memory, end, found) is not None
        self.assertGreater(papers, 100)

    def test_no_paper_of_one_end_is_taken_for_an_end_that_comes(self):
        for book, memory, _, _ in short_books(62, 30):
            found, others = candidate_ends(book, memory, 5)
            papers = [told for kind, told in [comes(book, memory, end) for end in others] if kind == "paper"]
            for end in found:
                for paper in papers:
                    self.assertIs(paper_takes(book, memory, end, paper), False)
            for end in others:
                for paper in papers:
                    check_boolean(self, Checker(book, memory, end).takes(paper), paper_takes(book, memory, end, paper))

    def test_all_ends_of_crossed_books(self):
        fenced = tuple(rows[:2] + (("fence",),) + rows[2:] for rows in CROSSED)
        for book in (CROSSED, fenced, HANDED):
            found = ends(book, (0, 0))
            for words in itertools.product((0, 1), repeat=6):
                a, b, c, d, x, y = words
                end = (((0, a, b, 0, 0, 0, 0, 0), (0, c, d, 0, 0, 0, 0, 0)), (x, y))
                self.both(book, (0, 0), end, found)

    def test_eight_rows(self):
        """Books of the greatest size, with four writes to a cell and words that say nothing of their sources."""
        def counting(*cells):
            return (("set", 7, 1),) + tuple(("addto", 1, 7, 0, cell) for cell in cells) + (("set", 1, 0),)
        book = (counting(0, 1), counting(1, 0), counting(0, 1), counting(1, 0))
        registers = ((0,) * 7 + (1,),) * 4
        self.both(book, (0, 0), (registers, (4, 4)), [(registers, (4, 4))])
        for memory in ((3, 4), (4, 5), (4, 0), (0, 0)):
            self.both(book, (0, 0), (registers, memory), [])
        swaps = tuple((("set", 1, n + 1), ("swap", 2, 1, 0, 0), ("swap", 3, 1, 0, 1)) for n in range(4))
        found = ends(swaps, (0, 0))
        for end in found[::40]:
            self.both(swaps, (0, 0), end, found)
            self.both(swaps, (0, 0), (end[0], (9, end[1][1])), found)
            self.both(swaps, (0, 0), (end[0], (end[1][0] % 4 + 1, end[1][1])), found)
            self.both(swaps, (0, 0), ((end[0][0],) + end[0][1:][::-1], end[1]), found)
        stores = tuple((("set", 1, n + 1), ("store", 1, 0, 0), ("load", 2, 0, 0)) for n in range(4))
        found = ends(stores, (0,))
        for end in found[::7]:
            self.both(stores, (0,), end, found)
            self.both(stores, (0,), (end[0], (5,)), found)
            self.both(stores, (0,), (end[0][:3] + ((0, 4, 0, 0, 0, 0, 0, 0),), end[1]), found)

    def test_many_fences(self):
        rows = (("fence",),) * 18
        book = tuple(rows + core[:2] + rows + core[2:] for core in CROSSED)
        found = ends(book, (0, 0))
        for words in itertools.product((0, 1), repeat=2):
            end = (tuple((0, 1, word, 0, 0, 0, 0, 0) for word in words), (1, 1))
            self.both(book, (0, 0), end, found)

    def test_papers_are_short_where_little_matters(self):
        book = tuple((("set", 1, 1), ("store", 1, 0, 0), ("load", 2, 0, 1)) for _ in range(4))
        end = (((0, 1, 0, 0, 0, 0, 0, 0),) * 3 + ((0, 2, 0, 0, 0, 0, 0, 0),), (1, 0))
        self.assertEqual(comes(book, (0, 0), end), ("paper", ("word", 3, 1)))
        self.assertEqual(comes(((), ()), (5, 6), (((0,) * 8,) * 2, (5, 7))), ("paper", ("cell", 1)))
        self.assertEqual(comes(((), ()), (5, 6), (((0,) * 8,) * 2, (5, 6))), ("run", []))


class Takes(unittest.TestCase):
    def agree(self, book, memory, end, value):
        good = Checker(book, memory, end).takes(value)
        check_boolean(self, good, paper_takes(book, memory, end, value))
        return good

    def test_papers_with_one_part_wrong(self):
        still = 0
        for book, memory, _, _ in short_books(63, 12):
            _, others = candidate_ends(book, memory, 6)
            for end in others:
                kind, paper = comes(book, memory, end)
                if kind == "paper" and leaves(paper) < 12:
                    for other in variants(paper):
                        still += self.agree(book, memory, end, other)
        self.assertGreater(still, 0)
        for other in variants(AGAINST):
            self.agree(HANDED, (0, 0), ODD, other)

    def test_any_object(self):
        for value in WRONG + (("read",), ("ring",), ("word", 1, 1, 1), ("cell", True), ("cell", 0, 0), ("word", True, 1), (Odd(), 0),
                              ("cell", Odd()), ("word", 0, 9), ("word", 2, 0), ("cell", 2), ("ring", "behind", ()), ("ring", "no", (0, 1)),
                              ("ring", "behind", (0,)), ("ring", "behind", [0, 1]), ("first", 0, 1, ("cell", 0), ("cell", 0))):
            self.assertIs(paper_takes(HANDED, (0, 0), ODD, value), False)

    def test_known_words(self):
        book = ((("load", 1, 0, 0), ("and", 2, 1, 0), ("set", 3, 4), ("add", 4, 3, 3)),)
        end = (((0, 5, 9, 4, 9, 0, 0, 0),), (5,))
        self.assertIs(paper_takes(book, (5,), end, ("word", 0, 4)), True)
        self.assertIs(paper_takes(book, (5,), end, ("word", 0, 3)), False)
        # A sum with 0 comes from the read all the same.
        self.assertIs(paper_takes(book, (5,), end, ("word", 0, 2)), False)
        self.assertIs(paper_takes(book, (5,), end, ("read", 0, ((-1, ("word", 0, 2)),))), True)
        self.assertIs(paper_takes(book, (5,), end, ("read", 0, ((-1, ("word", 0, 1)),))), False)

    def test_words_that_go_round(self):
        book = ((("load", 1, 0, 0), ("store", 1, 0, 1)), (("load", 1, 0, 1), ("store", 1, 0, 0)))
        end = (((0, 7, 0, 0, 0, 0, 0, 0),) * 2, (7, 7))
        inner = ("read", 2, ((-1, ("word", 1, 1)), (1, ("word", 0, 1))))
        paper = ("read", 0, ((-1, ("word", 0, 1)), (3, inner)))
        self.assertIs(paper_takes(book, (0, 0), end, paper), False)
        ring = inner[:2] + ((inner[2][0], (1, ("ring", "behind", (0, 1, 2, 3)))),)
        self.assertIs(paper_takes(book, (0, 0), end, paper[:2] + ((paper[2][0], (3, ring)),)), True)
        self.assertEqual(comes(book, (0, 0), end)[0], "paper")

    def test_cells(self):
        rows = (("set", 1, 1), ("store", 1, 0, 0), ("set", 1, 2), ("store", 1, 0, 0))
        end = (((0, 2, 0, 0, 0, 0, 0, 0),), (1,))
        # That both are of one core orders neither before the other.
        self.assertIs(paper_takes((rows,), (0,), end, ("cell", 0)), False)
        ring = ("ring", "own", (0, 1))
        self.assertIs(paper_takes((rows,), (0,), end, ("first", 0, 1, ("cell", 0), ring)), True)
        self.assertIs(paper_takes((rows,), (0,), end, ("first", 1, 0, ring, ("cell", 0))), True)
        self.assertIs(paper_takes((rows,), (0,), end, ("first", 0, 1, ("cell", 0), ("ring", "behind", (1, 0)))), True)
        self.assertIs(paper_takes((rows,), (0,), end, ("first", 0, 1, ring, ring)), False)
        self.assertIs(paper_takes((rows,), (0,), end, ("first", 0, 1, ("first", 0, 1, ring, ring), ring)), False)
        self.assertIs(paper_takes((rows,), (0,), end, ("first", 0, 1, ("first", 1, 0, ring, ring), ring)), False)
        self.assertIs(paper_takes((rows[:2],), (0,), (((0, 1, 0, 0, 0, 0, 0, 0),), (3,)), ("cell", 0)), True)

    def test_what_a_first_may_order(self):
        rows = (("set", 1, 1), ("store", 1, 0, 0), ("set", 1, 2), ("store", 1, 0, 0), ("load", 3, 0, 0), ("store", 1, 0, 1),
                ("fence",), ("fence",))
        end = (((0, 2, 0, 9, 0, 0, 0, 0),), (1, 2))
        cell, ring, both = ("cell", 0), ("ring", "own", (0, 1)), ("ring", "behind", (0, 1))
        good = ("first", 0, 1, cell, ring)
        self.assertIs(paper_takes((rows,), (0, 0), end, good), True)
        # No pair is ordered twice, in either sequence.
        for paper in (("first", 0, 1, ("first", 0, 1, cell, both), ring), ("first", 0, 1, ("first", 1, 0, both, cell), ring),
                      ("first", 1, 0, ring, ("first", 0, 1, cell, both)), ("first", 0, 1, cell, ("first", 0, 1, both, ring)),
                      ("first", 0, 1, cell, ("first", 1, 0, ring, both))):
            self.assertIs(paper_takes((rows,), (0, 0), end, paper), False)
            self.assertEqual(paper_size(paper), 3)
        # Only different writes of one cell are ordered; the papers inside would hold.
        for one, other in ((0, 0), (0, 2), (2, 0), (0, 3), (3, 1), (4, 5), (4, 0), (2, 2)):
            self.assertIs(paper_takes((rows,), (0, 0), end, ("first", one, other, good, good)), False)
        wrong = (((0, 3, 0, 9, 0, 0, 0, 0),), (1, 2))
        for one, other, right in ((0, 1, True), (1, 0, True), (0, 0, False), (0, 2, False), (2, 1, False), (0, 3, False),
                                  (4, 5, False), (-1, 0, False), (0, 6, False)):
            paper = ("first", one, other, ("word", 0, 1), ("word", 0, 1))
            check_boolean(self, right, paper_takes((rows,), (0, 0), wrong, paper))

    def test_what_a_read_may_pick_for(self):
        rows = (("set", 1, 1), ("store", 1, 0, 0), ("swap", 2, 1, 0, 0), ("load", 3, 0, 0), ("fence",), ("addto", 4, 1, 0, 1))
        end = (((0, 7, 0, 0, 0, 0, 0, 0),), (1, 2))
        leaf = ("word", 0, 1)
        for event, sources in ((0, (-1, 1)), (0, (-1, 0, 1)), (1, (-1, 0)), (1, (-1, 0, 1)), (2, (-1, 0, 1)), (2, (-1, 0)),
                               (3, (-1,)), (4, (-1,)), (4, (-1, 4)), (5, (-1,)), (-1, (-1,)), (True, (-1, 0)), (2, (-1, False, True)),
                               (2, (0, 1)), (2, (-1, 1, 0)), (2, (0, 1, -1)), (2, (-1, 0, 1, 3))):
            paper = ("read", event, tuple((source, leaf) for source in sources))
            good = any(same((event, sources), one) for one in ((1, (-1, 0)), (2, (-1, 0, 1)), (4, (-1,))))
            check_boolean(self, good, paper_takes((rows,), (0, 0), end, paper))
            check_boolean(self, good, paper_takes((rows,), (0, 0), end, ("first", 0, 1, paper, paper)))

    def test_rings_of_different_events(self):
        rows = (("set", 1, 1), ("store", 1, 0, 0), ("set", 1, 2), ("store", 1, 0, 0))
        end = (((0, 2, 0, 0, 0, 0, 0, 0),), (1,))
        for events_, good in (((0, 1), True), ((1, 0), True), ((0, 1, 0, 1), False), ((0, 1, 1), False), ((0, 1, 0), False),
                              ((0, 2), False), ((-1, 0), False), ((0, True), False), ((False, 1), False), ((0,), False)):
            for kind in ("own", "behind"):
                paper = ("first", 0, 1, ("cell", 0), ("ring", kind, events_))
                check_boolean(self, good, paper_takes((rows,), (0,), end, paper))

    def test_a_chain_of_ordered_pairs(self):
        book = tuple((("set", 1, n + 1), ("store", 1, 0, 0)) for n in range(3))
        end = (((9, 1, 0, 0, 0, 0, 0, 0),) + tuple((0, n + 1, 0, 0, 0, 0, 0, 0) for n in (1, 2)), (4,))
        leaf = ("word", 0, 0)
        kinds = [(a, b) for a in range(3) for b in range(3) if a != b]
        good = {}
        for first in kinds:
            for second in kinds:
                paper = ("first", *first, ("first", *second, ("cell", 0), leaf), leaf)
                if self.agree(book, (0,), end, paper):
                    good[(first, second)] = True
        self.assertEqual(sorted(good), sorted(
            (one, other) for one in kinds for other in kinds if set(one) != set(other) and (
                one[1] == other[1] or one[1] == other[0] or one[0] == other[1])))

    def test_a_chain_that_goes_round(self):
        book = tuple((("set", 1, n + 1), ("store", 1, 0, 0)) for n in range(4))
        end = (((9, 1, 0, 0, 0, 0, 0, 0),) + tuple((0, n + 1, 0, 0, 0, 0, 0, 0) for n in (1, 2, 3)), (7,))
        leaf = ("word", 0, 0)
        for pairs, good in ((((0, 1), (1, 2), (2, 0)), False), (((0, 1), (1, 2), (2, 3)), True), (((3, 0), (0, 1), (1, 2)), True),
                            (((1, 0), (0, 2), (2, 3)), True), (((0, 3), (1, 3), (2, 3)), True), (((0, 3), (1, 3)), False),
                            (((3, 0), (3, 1), (3, 2)), False), (((0, 1), (1, 2), (2, 0), (2, 3)), True)):
            paper = ("cell", 0)
            for pair in reversed(pairs):
                paper = ("first", *pair, paper, leaf)
            self.assertEqual(self.agree(book, (0,), end, paper), good)

        paper = ("cell", 0)
        for pair in ((2, 0), (1, 2), (0, 1)):
            paper = ("first", *pair, paper, leaf)
        self.assertIs(self.agree(book[:3], (0,), (end[0][:3], end[1]), paper), False)

    def test_numbers_below_zero(self):
        end = (((0, 1, 0, 0, 0, 0, 0, 0), (0, 1, 0, 0, 0, 0, 0, 9)), (1, 1))
        for paper, good in ((("word", 1, 7), True), (("word", -1, 7), False), (("word", 1, -1), False), (("word", 2, 7), False),
                            (("word", 1, 8), False), (("cell", -1), False), (("cell", 2), False)):
            check_boolean(self, good, paper_takes(HANDED, (0, 0), end, paper))
        unwritten = (((0, 1, 0, 0, 0, 0, 0, 0),), (9, 9))
        for paper, good in ((("cell", 1), True), (("cell", -1), False), (("cell", 2), False), (("cell", 0), True)):
            check_boolean(self, good, paper_takes(((("set", 1, 1),),), (0, 0), unwritten, paper))

    def test_no_source_twice(self):
        book, end = ((("load", 1, 0, 0),),), (((0, 1, 0, 0, 0, 0, 0, 0),), (0,))
        leaf = ("read", 0, ((-1, ("word", 0, 1)),))
        self.assertIs(paper_takes(book, (0,), end, leaf), True)
        self.assertIs(paper_takes(book, (0,), end, ("read", 0, ((-1, leaf),))), False)

    def test_deep_papers(self):
        rows = tuple(("load", 1, 0, 0) for _ in range(20))
        end = (((0, 1, 0, 0, 0, 0, 0, 0),), (0,))
        paper = ("word", 0, 1)
        for event in range(19, -1, -1):
            paper = ("read", event, ((-1, paper),))
        self.assertIs(paper_takes((rows,), (0,), end, paper), True)
        self.assertEqual(paper_size(paper), 1)
        self.assertIs(paper_takes((rows,), (0,), end, paper[2][0][1]), True)
        self.assertIs(paper_takes((rows,), (0,), end, ("read", 19, ((-1, paper),))), False)


class Size(unittest.TestCase):
    def test_forms(self):
        leaf = ("cell", 10 ** 40)
        for paper, size in ((leaf, 1), (("word", 0, 900), 1), (("ring", "own", (5, 3)), 1), (("ring", "behind", (0, 7, 3)), 1),
                            (("first", 9, 4, leaf, leaf), 2), (("read", 3, ((-1, leaf),)), 1),
                            (("read", 0, ((-1, leaf), (0, leaf), (99, ("first", 0, 1, leaf, leaf)))), 4), (AGAINST, 3)):
            self.assertEqual(paper_size(paper), size)
        self.assertEqual(paper_size(paper=AGAINST), 3)

    def test_what_has_not_the_form(self):
        leaf = ("cell", 0)
        for paper in WRONG + (
                ("cell",), ("cell", -1), ("cell", True), ("cell", 0, 0), ["cell", 0], ("cell", "0"), ("Cell", 0), ("word", 0),
                ("word", 0, -1), ("word", False, 0), ("word", 0, 0, 0), ("ring", "own", (0,)), ("ring", "own", ()),
                ("ring", "own", (0, 0)), ("ring", "own", (0, 1, 0)), ("ring", "own", [0, 1]), ("ring", "other", (0, 1)),
                ("ring", ["own"], (0, 1)), ("ring", None, (0, 1)), ("ring", "own", (0, -1)), ("ring", "own", (0, True)),
                ("ring", "own", (0, (1,))), ("ring", "own", (0, [])), ("first", 0, 0, leaf, leaf), ("first", 0, 1, leaf),
                ("first", 0, 1, leaf, leaf, leaf), ("first", -1, 1, leaf, leaf), ("first", True, 0, leaf, leaf),
                ("first", 0, 1, leaf, ()), ("first", 0, 1, [], leaf), ("read", 0, ()), ("read", 0, ((0, leaf),)),
                ("read", 0, ((-1, leaf), (-1, leaf))), ("read", 0, ((-1, leaf), (2, leaf), (1, leaf))),
                ("read", 0, ((-2, leaf), (-1, leaf))), ("read", 0, [(-1, leaf)]), ("read", 0, ([-1, leaf],)),
                ("read", 0, ((-1, leaf, 0),)), ("read", 0, ((-1, leaf), (False, leaf))), ("read", -1, ((-1, leaf),)),
                ("read", 0, ((-1, leaf), (0, deep(40)))), ("read", 0), ("read", 0, ((None, leaf),)), (Odd(), 0)):
            check_raises(self, InvalidPaper, paper, paper_size, paper)

    def test_one_place_wrong(self):
        good = ("read", 2, ((-1, ("word", 1, 1)), (1, ("first", 3, 5, ("ring", "own", (0, 1)), ("cell", 2)))))

        def size(value):
            if type(value) is not tuple or not value or type(value[0]) is not str:
                return None
            def count(x):
                return type(x) is int and x >= 0
            name, rest = value[0], value[1:]
            if name == "cell":
                return 1 if len(rest) == 1 and count(rest[0]) else None
            if name == "word":
                return 1 if len(rest) == 2 and all(map(count, rest)) else None
            if name == "ring":
                good = len(rest) == 2 and rest[0].__class__ is str and rest[0] in ("behind", "own") and type(rest[1]) is tuple
                return 1 if good and len(rest[1]) > 1 and all(map(count, rest[1])) and len(set(rest[1])) == len(rest[1]) else None
            if name == "first":
                if len(rest) != 4 or not all(map(count, rest[:2])) or rest[0] == rest[1]:
                    return None
                sizes = [size(rest[2]), size(rest[3])]
                return None if None in sizes else sum(sizes)
            if name != "read" or len(rest) != 2 or not count(rest[0]) or type(rest[1]) is not tuple or not rest[1]:
                return None
            if not all(type(p) is tuple and len(p) == 2 and type(p[0]) is int for p in rest[1]):
                return None
            sources = [p[0] for p in rest[1]]
            sizes = [size(p[1]) for p in rest[1]]
            return None if sources[0] != -1 or sources != sorted(set(sources)) or None in sizes else sum(sizes)

        kinds = set()
        for value in variants(good):
            expected = size(value)
            kinds.add(expected is None)
            if expected is None:
                check_raises(self, InvalidPaper, value, paper_size, value)
            else:
                self.assertTrue(same(paper_size(value), expected))
        self.assertEqual(kinds, {True, False})


class Errors(unittest.TestCase):
    def test_sequence_of_the_parameters(self):
        jumping = ((("jump", 1),),)
        for value in WRONG:
            for call, rest in ((comes, ()), (paper_takes, (value,))):
                check_raises(self, InvalidBook, value, call, value, value, value, *rest)
                check_raises(self, NotShort, jumping, call, jumping, value, value, *rest)
                check_raises(self, InvalidMemory, value, call, HANDED, value, value, *rest)
                check_raises(self, InvalidEnd, value, call, HANDED, (0, 0), value, *rest)
        for end in ((ODD[0], (1,)), (ODD[0][:1], (1, 1)), (ODD[0], (1, True)), (ODD[0], [1, 1]), ODD + (0,)):
            check_raises(self, InvalidEnd, end, comes, HANDED, (0, 0), end)
            check_raises(self, InvalidEnd, end, paper_takes, HANDED, (0, 0), end, AGAINST)
        self.assertIs(paper_takes(book=HANDED, memory=(0, 0), end=ODD, value=AGAINST), True)
        self.assertEqual(comes(book=HANDED, memory=(0, 0), end=ODD)[0], "paper")


if __name__ == "__main__":
    unittest.main()
