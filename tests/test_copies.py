import unittest

from touchroad.copies import (copies_after, copies_deeds, copies_first, fits, memory_now, state_of, word_now)
from touchroad.errors import InvalidMemory, InvalidNumber, InvalidPlan, NotLet
from tests.helpers import WRONG, Draw, Odd, check_boolean, check_examples, check_raises, same, variants
from tests.reference_fast import Net

EXAMPLES = """
>>> from touchroad.copies import copies_after, copies_deeds, copies_first, memory_now, state_of
>>> plan = (4, 2, 1, 2, 4)
>>> copies = copies_first(plan, (5, 6, 7, 8), 2)
>>> copies_deeds(plan, copies)[:3]
[('ask', 0, 0, 'read'), ('ask', 0, 0, 'own'), ('ask', 0, 1, 'read')]
>>> copies, lost = copies_after(plan, copies, ("ask", 0, 0, "own"))
>>> copies, lost = copies_after(plan, copies, ("out", 0))
>>> copies, lost = copies_after(plan, copies, ("in", 0))
>>> copies, lost = copies_after(plan, copies, ("write", 0, 1, 9))
>>> copies, lost = copies_after(plan, copies, ("ask", 1, 0, "read"))
>>> copies, lost = copies_after(plan, copies, ("out", 1))
>>> [state_of(copies, 0, 0), memory_now(plan, copies), copies[1][0], copies[2][0]]
['owned', (5, 9, 7, 8), ((5, 6), 0, (), (1, 'read', (0,)), ()), ((), (('share', 0),))]
>>> copies, lost = copies_after(plan, copies, ("in", 0))
>>> copies, lost = copies_after(plan, copies, ("out", 0))
>>> copies, lost = copies_after(plan, copies, ("in", 1))
>>> [state_of(copies, 0, 0), state_of(copies, 1, 0), copies[1][0]]
['shared', 'shared', ((5, 9), None, (0, 1), None, ())]
"""

PLAN = (2, 1, 1, 1, 1)
PLANS = ((2, 1, 1, 1, 1), (2, 1, 2, 2, 4), (4, 2, 1, 2, 4), (6, 2, 2, 4, 6), (8, 4, 2, 1, 3), (3, 1, 4, 3, 2), (1, 1, 1, 1, 1))


def done(plan, memory, cores, deeds):
    copies, lost = copies_first(plan, memory, cores), None
    for deed in deeds:
        copies, lost = copies_after(plan, copies, deed)
    return copies, lost


def got(core, line, kind):
    return [("ask", core, line, kind), ("out", core), ("in", core)]


EMPTY = ((), None)
NO = ((), ())


class Deeds(unittest.TestCase):
    def whole(self, deeds, caches, homes, ways, lost=None, memory=(5, 6)):
        copies, told = done(PLAN, memory, len(caches), deeds)
        self.assertTrue(same(copies, (caches, homes, ways)), copies)
        self.assertTrue(same(told, lost), told)
        self.assertIs(fits(PLAN, copies), True)

    def test_examples(self):
        check_examples(self, EXAMPLES)

    def test_first(self):
        self.assertTrue(same(copies_first((4, 2, 1, 1, 1), (5, 6, 7, 8), 3), (
            (EMPTY,) * 3, (((5, 6), None, (), None, ()), ((7, 8), None, (), None, ())), (NO,) * 3)))
        self.assertEqual(len(copies_first(plan=(32, 1, 1, 1, 1), memory=(0,) * 32, cores=4)[1]), 32)

    def test_ask_read_alone(self):
        home = ((6,), None, (), None, ())
        self.whole([("ask", 0, 0, "read")], (((), (0, "read")), EMPTY), (((5,), None, (), None, ()), home),
                   (((("want", 0, "read"),), ()), NO))
        self.whole([("ask", 0, 0, "read"), ("out", 0)], (((), (0, "read")), EMPTY),
                   (((5,), None, (0,), None, ()), home), (((), (("have", 0, "shared", (5,)),)), NO))
        self.whole(got(0, 0, "read"), ((((0, "shared", (5,)),), None), EMPTY),
                   (((5,), None, (0,), None, ()), home), (NO, NO))

    def test_ask_own_alone_and_write(self):
        home = ((6,), None, (), None, ())
        self.whole([("ask", 0, 0, "own"), ("out", 0)], (((), (0, "own")), EMPTY),
                   (((5,), 0, (), None, ()), home), (((), (("have", 0, "owned", (5,)),)), NO))
        self.whole(got(0, 0, "own") + [("write", 0, 0, 65535)], ((((0, "owned", (65535,)),), None), EMPTY),
                   (((5,), 0, (), None, ()), home), (NO, NO))

    def test_shared_then_own(self):
        home = ((6,), None, (), None, ())
        first = got(0, 0, "read") + got(1, 0, "read") + [("ask", 0, 0, "own")]
        self.whole(first, ((((0, "shared", (5,)),), (0, "own")), (((0, "shared", (5,)),), None)),
                   (((5,), None, (0, 1), None, ()), home), (((("want", 0, "own"),), ()), NO))
        self.whole(first + [("out", 0)], ((((0, "shared", (5,)),), (0, "own")), (((0, "shared", (5,)),), None)),
                   (((5,), None, (0, 1), (0, "own", (1,)), ()), home), (NO, ((), (("lose", 0),))))
        self.whole(first + [("out", 0), ("in", 1)], ((((0, "shared", (5,)),), (0, "own")), EMPTY),
                   (((5,), None, (0, 1), (0, "own", (1,)), ()), home), (NO, ((("gone", 0),), ())), lost=0)
        self.whole(first + [("out", 0), ("in", 1), ("out", 1)], ((((0, "shared", (5,)),), (0, "own")), EMPTY),
                   (((5,), 0, (), None, ()), home), (((), (("have", 0, "owned", (5,)),)), NO))
        self.whole(first + [("out", 0), ("in", 1), ("out", 1), ("in", 0)],
                   ((((0, "owned", (5,)),), None), EMPTY), (((5,), 0, (), None, ()), home), (NO, NO))

    def test_lose_of_an_owned_line(self):
        home = ((6,), None, (), None, ())
        first = got(0, 0, "own") + [("write", 0, 0, 9), ("ask", 1, 0, "own"), ("out", 1)]
        self.whole(first, ((((0, "owned", (9,)),), None), ((), (0, "own"))),
                   (((5,), 0, (), (1, "own", (0,)), ()), home), (((), (("lose", 0),)), NO))
        self.whole(first + [("in", 0)], (EMPTY, ((), (0, "own"))), (((5,), 0, (), (1, "own", (0,)), ()), home),
                   (((("lost", 0, (9,)),), ()), NO), lost=0)
        self.whole(first + [("in", 0), ("out", 0)], (EMPTY, ((), (0, "own"))),
                   (((9,), 1, (), None, ()), home), (NO, ((), (("have", 0, "owned", (9,)),))))

    def test_drop(self):
        home = ((6,), None, (), None, ())
        self.whole(got(0, 0, "read") + [("drop", 0, 0)], (EMPTY, EMPTY), (((5,), None, (0,), None, ()), home),
                   (NO, NO), lost=0)
        self.whole(got(0, 0, "own") + [("write", 0, 0, 8), ("drop", 0, 0)], (EMPTY, EMPTY),
                   (((5,), 0, (), None, ()), home), (((("back", 0, (8,)),), ()), NO), lost=0)
        self.whole(got(0, 0, "own") + [("write", 0, 0, 8), ("drop", 0, 0), ("out", 0)], (EMPTY, EMPTY),
                   (((8,), None, (), None, ()), home), (NO, NO))

    def test_back_on_its_way_while_share_comes(self):
        home = ((6,), None, (), None, ())
        first = got(0, 0, "own") + [("write", 0, 0, 8), ("ask", 1, 0, "read"), ("out", 1), ("drop", 0, 0), ("in", 0)]
        self.whole(first, (EMPTY, ((), (0, "read"))), (((5,), 0, (), (1, "read", (0,)), ()), home),
                   (((("back", 0, (8,)), ("gone", 0)), ()), NO))
        self.assertEqual(memory_now(PLAN, done(PLAN, (5, 6), 2, first)[0]), (8, 6))
        self.whole(first + [("out", 0)], (EMPTY, ((), (0, "read"))), (((8,), None, (), (1, "read", (0,)), ()), home),
                   (((("gone", 0),), ()), NO))
        self.whole(first + [("out", 0), ("out", 0)], (EMPTY, ((), (0, "read"))),
                   (((8,), None, (1,), None, ()), home), (NO, ((), (("have", 0, "shared", (8,)),))))

    def test_back_on_its_way_while_lose_comes(self):
        home = ((6,), None, (), None, ())
        first = got(0, 0, "own") + [("write", 0, 0, 8), ("ask", 1, 0, "own"), ("out", 1), ("drop", 0, 0), ("in", 0)]
        self.whole(first, (EMPTY, ((), (0, "own"))), (((5,), 0, (), (1, "own", (0,)), ()), home),
                   (((("back", 0, (8,)), ("gone", 0)), ()), NO))
        self.whole(first + [("out", 0), ("out", 0)], (EMPTY, ((), (0, "own"))),
                   (((8,), 1, (), None, ()), home), (NO, ((), (("have", 0, "owned", (8,)),))))

    def test_wants_that_wait_are_served_in_their_sequence(self):
        deeds = got(0, 0, "own") + [("write", 0, 0, 9)]
        for core, kind in ((3, "read"), (1, "read"), (2, "own")):
            deeds += [("ask", core, 0, kind), ("out", core)]
        copies, _ = done(PLAN, (5, 6), 4, deeds)
        self.assertEqual(copies[1][0], ((5,), 0, (), (3, "read", (0,)), ((1, "read"), (2, "own"))))
        copies, _ = done(PLAN, (5, 6), 4, deeds + [("in", 0)])
        self.assertEqual((state_of(copies, 0, 0), copies[2][0]), ("shared", ((("gave", 0, (9,)),), ())))
        copies, _ = done(PLAN, (5, 6), 4, deeds + [("in", 0), ("out", 0)])
        # Both reads are served; the own begins and needs all that share.
        self.assertEqual(copies[1][0], ((9,), None, (0, 1, 3), (2, "own", (0, 1, 3)), ()))
        self.assertEqual(copies[2], (((), (("lose", 0),)), ((), (("have", 0, "shared", (9,)), ("lose", 0))), NO,
                                     ((), (("have", 0, "shared", (9,)), ("lose", 0)))))
        more = [("in", 0), ("out", 0), ("ask", 0, 0, "own"), ("in", 0)]
        copies, lost = done(PLAN, (5, 6), 4, deeds + more)
        self.assertEqual((lost, copies[0][0], copies[2][0][0]), (0, ((), (0, "own")), (("want", 0, "own"), ("gone", 0))))
        copies, _ = done(PLAN, (5, 6), 4, deeds + more + [("out", 0), ("out", 0)])
        self.assertEqual(copies[1][0], ((9,), None, (0, 1, 3), (2, "own", (1, 3)), ((0, "own"),)))

    def test_a_want_waits_where_others_wait(self):
        deeds = []
        for core in (1, 0, 2):
            deeds += got(core, 0, "own") if core == 1 else [("ask", core, 0, "own"), ("out", core)]
        copies, _ = done(PLAN, (5, 6), 3, deeds + [("in", 1), ("out", 1)])
        self.assertEqual(copies[1][0], ((5,), 0, (), (2, "own", (0,)), ()))
        copies, lost = done(PLAN, (5, 6), 3, deeds + [("in", 1), ("out", 1), ("in", 0)])
        self.assertEqual((lost, copies[0][0]), (None, (((0, "owned", (5,)),), None)))

    def test_a_full_cache(self):
        copies, _ = done(PLAN, (5, 6), 1, got(0, 0, "read"))
        self.assertEqual(copies_deeds(PLAN, copies), [("ask", 0, 0, "own"), ("drop", 0, 0)])
        for kind in ("read", "own"):
            check_raises(self, NotLet, ("ask", 0, 1, kind), copies_after, PLAN, copies, ("ask", 0, 1, kind))
        copies, _ = done(PLAN, (5, 6), 1, got(0, 0, "own"))
        self.assertEqual(copies_deeds(PLAN, copies), [("drop", 0, 0)])
        copies, _ = done(PLAN, (5, 6), 1, got(0, 0, "read") + [("ask", 0, 0, "own")])
        self.assertEqual(copies_deeds(PLAN, copies), [("out", 0)])

    def test_against_the_reference(self):
        draw = Draw(11)
        for number in range(60):
            plan = PLANS[number % len(PLANS)]
            cores = 1 + draw.below(4)
            memory = tuple(draw.word() for _ in range(plan[0]))
            net, copies = Net(plan, memory, cores), copies_first(plan, memory, cores)
            for _ in range(120):
                deeds = [deed for core in range(cores) for deed in net.deeds(core)]
                self.assertTrue(same(copies_deeds(plan, copies), deeds))
                self.assertTrue(same(memory_now(plan, copies), net.memory()))
                writes = [("write", core, cell, draw.word()) for core in range(cores) for cell in range(plan[0])]
                for deed in [deed for core in range(cores) for deed in net.all_deeds(core)] + writes:
                    if not net.let(deed):
                        check_raises(self, NotLet, deed, copies_after, plan, copies, deed)
                deeds += [deed for deed in writes if net.let(deed)]
                deed = draw.one_of(deeds)
                lost = net.go(deed)
                copies, told = copies_after(plan, copies, deed)
                self.assertTrue(same((copies, told), (net.frozen(), lost)))
                self.assertIs(fits(plan, copies), True)
                for core in range(cores):
                    for line in range(plan[0] // plan[1]):
                        self.assertEqual(state_of(copies, core, line), net.lines[core].get(line, [None])[0])

    def test_deeds_that_are_none(self):
        copies, _ = done((4, 2, 1, 1, 1), (5, 6, 7, 8), 2, got(0, 0, "own"))
        plan = (4, 2, 1, 1, 1)
        for deed in WRONG + (
                ("write", 0, 0, 65536), ("write", 0, 0, -1), ("write", 0, 2, 5), ("write", 0, 4, 5), ("write", 1, 0, 5),
                ("write", 0, -1, 5), ("write", 0, 0), ("write", 0, 0, True), ("write", False, 0, 5), ("write", 0, 0, 5, 5),
                ["write", 0, 0, 5], ("ask", 1, 2, "read"), ("ask", 1, 0, "Own"), ("ask", 1, 0, None), ("ask", 1, 0),
                ("ask", 1, True, "read"), ("ask", 2, 0, "read"), ("ask", -1, 0, "read"), ("ask", 1, -1, "own"),
                ("ask", 1, 0, Odd()), (Odd(), 1), ("drop", 0, False), ("drop", 1, 0), ("drop", 0, 1), ("drop", 0),
                ("in", 0), ("out", 0), ("in",), ("out", 0, 0), ("fetch", 0), ("flush", 0), ("back", 0, 0), ("ask",)):
            check_raises(self, NotLet, deed, copies_after, plan, copies, deed)
        both, _ = done(plan, (5, 6, 7, 8), 2, got(0, 0, "own") + got(1, 1, "read") + [
            ("ask", 1, 1, "own"), ("out", 1), ("drop", 0, 0)])
        self.assertEqual([deed for deed in copies_deeds(plan, both) if deed[0] in ("out", "in")], [("out", 0), ("in", 1)])
        for deed in (("out", 0, 0), ("in", 1, 1), ("in", 1, None), (Odd(), 0), (Odd(), 1), ("in", -1), ("out", -2), ("in", True),
                     ("out", False), ["out", 0], (b"out", 0), ("in", 0), ("out", 1)):
            check_raises(self, NotLet, deed, copies_after, plan, both, deed)
        for deed in (("write", 0, 0, 5), ("ask", 1, 0, "own"), ("drop", 0, 0)):
            copies_after(plan, copies, deed)
            for other in variants(deed):
                good = type(other) is tuple and len(other) == 4 and all(type(part) in (int, str) for part in other) and (
                    (other[:2] == ("write", 0) and other[2] in (0, 1) and other[3] in range(65536))
                    or (other[:2] == ("ask", 1) and other[2] in (0, 1) and other[3] in ("read", "own")))
                if not good:
                    check_raises(self, NotLet, other, copies_after, plan, copies, other)


class Numbers(unittest.TestCase):
    def test_numbers_that_there_are_not(self):
        plan, memory = (4, 2, 1, 1, 1), (5, 6, 7, 8)
        for cores in (0, 5, -1, 10 ** 30):
            check_raises(self, InvalidNumber, cores, copies_first, plan, memory, cores)
        copies = copies_first(plan, memory, 2)
        for cell in (-1, 4, 32):
            check_raises(self, InvalidNumber, cell, word_now, plan, copies, cell)
        for core in (-1, 2):
            check_raises(self, InvalidNumber, core, state_of, copies, core, 9)
        for line in (-1, 2):
            check_raises(self, InvalidNumber, line, state_of, copies, 1, line)
        self.assertEqual([word_now(plan, copies, cell) for cell in range(4)], [5, 6, 7, 8])

    def test_wrong_plans_and_memories(self):
        copies = copies_first(PLAN, (5, 6), 2)
        for value in WRONG:
            check_raises(self, InvalidPlan, value, copies_first, value, value, 9)
            check_raises(self, InvalidMemory, value, copies_first, PLAN, value, 9)
            check_raises(self, InvalidPlan, value, copies_deeds, value, copies)
            check_raises(self, InvalidPlan, value, copies_after, value, copies, ("out", 0))
            check_raises(self, InvalidPlan, value, word_now, value, copies, 99)
            check_raises(self, InvalidPlan, value, memory_now, value, copies)
            check_raises(self, InvalidPlan, value, fits, value, copies)
        for memory in ((5,), (5, 6, 7)):
            check_raises(self, InvalidMemory, memory, copies_first, PLAN, memory, 1)


def is_int(value, low, high):
    return type(value) is int and low <= value < high


def rising(value, many):
    return type(value) is tuple and all(is_int(x, 0, many) for x in value) and list(value) == sorted(set(value))


def reference_fits(plan, value):
    lines = plan[0] // plan[1]

    def part(x, sign):
        if sign == "l":
            return is_int(x, 0, lines)
        if sign == "w":
            return type(x) is tuple and len(x) == plan[1] and all(is_int(w, 0, 65536) for w in x)
        return type(x) is str and x in {"k": ("read", "own"), "s": ("shared", "owned")}[sign]

    def parts(x, signs):
        return type(x) is tuple and len(x) == len(signs) and all(map(part, x, signs))

    def letter(x, forms):
        return type(x) is tuple and x and type(x[0]) is str and x[0] in forms and parts(x[1:], forms[x[0]])

    def want(x, cores):
        return type(x) is tuple and len(x) == 2 and is_int(x[0], 0, cores) and part(x[1], "k")

    def home(x, cores):
        if type(x) is not tuple or len(x) != 5:
            return False
        busy = x[3] is None or (type(x[3]) is tuple and len(x[3]) == 3 and want(x[3][:2], cores) and rising(x[3][2], cores))
        return (part(x[0], "w") and (x[1] is None or is_int(x[1], 0, cores)) and rising(x[2], cores) and busy
                and type(x[4]) is tuple and all(want(w, cores) for w in x[4]))

    def cache(x):
        return (type(x) is tuple and len(x) == 2 and type(x[0]) is tuple and len(x[0]) <= plan[2]
                and all(parts(h, "lsw") for h in x[0]) and rising(tuple(h[0] for h in x[0]), lines)
                and (x[1] is None or parts(x[1], "lk")))

    def way(x):
        out = {"want": "lk", "back": "lw", "gave": "lw", "lost": "lw", "gone": "l"}
        into = {"have": "lsw", "share": "l", "lose": "l"}
        return (type(x) is tuple and len(x) == 2 and type(x[0]) is tuple and type(x[1]) is tuple
                and all(letter(y, out) for y in x[0]) and all(letter(y, into) for y in x[1]))

    if type(value) is not tuple or len(value) != 3 or any(type(x) is not tuple for x in value):
        return False
    cores = len(value[0])
    if not (1 <= cores <= 4 and len(value[2]) == cores and len(value[1]) == lines and all(map(cache, value[0]))
            and all(home(x, cores) for x in value[1]) and all(map(way, value[2]))):
        return False
    for line in range(lines):
        held = [h for c in value[0] for h in c[0] if h[0] == line]
        if len(held) == 1 and held[0][1] == "owned":
            continue
        now = value[1][line][0]
        for out, _ in value[2]:
            told = [y[2] for y in out if y[0] in ("back", "gave", "lost") and y[1] == line]
            if told:
                now = told[-1]
                break
        if any(h[1:] != ("shared", now) for h in held):
            return False
    return True


class Fits(unittest.TestCase):
    def test_copies_that_are_wrong_in_one_place(self):
        plan = (4, 2, 2, 1, 1)
        deeds = got(0, 0, "own") + [("write", 0, 0, 9), ("ask", 1, 0, "read"), ("out", 1), ("ask", 2, 0, "own"), ("out", 2),
                                    ("in", 0), ("ask", 0, 1, "read"), ("out", 0)]
        seen = 0
        for many in range(len(deeds) + 1):
            copies, _ = done(plan, (5, 6, 7, 8), 3, deeds[:many])
            self.assertIs(fits(plan, copies), True)
            for other in variants(copies):
                expected = reference_fits(plan, other)
                seen += expected
                check_boolean(self, expected, fits(plan, other))
            for at in (0, 1, 2):
                for other in WRONG:
                    value = copies[:at] + (other,) + copies[at + 1:]
                    check_boolean(self, reference_fits(plan, value), fits(plan, value))
        self.assertGreater(seen, 50)

    def test_drawn(self):
        draw = Draw(3)
        for number in range(12):
            plan = PLANS[number % len(PLANS)]
            cores = 1 + draw.below(3)
            net = Net(plan, (1,) * plan[0], cores)
            for _ in range(30):
                net.go(draw.one_of([deed for core in range(cores) for deed in net.deeds(core)]))
            copies = net.frozen()
            self.assertIs(fits(plan, copies), True)
            for other in variants(copies):
                check_boolean(self, reference_fits(plan, other), fits(plan, other))

    def test_other_plans(self):
        copies = copies_first((4, 2, 1, 1, 1), (0,) * 4, 2)
        for plan, good in (((4, 2, 4, 4, 6), True), ((4, 1, 1, 1, 1), False), ((2, 2, 1, 1, 1), False), ((8, 4, 1, 1, 1), False)):
            check_boolean(self, good, fits(plan, copies))

    def test_caches_that_do_not_agree(self):
        def with_caches(*caches):
            first = copies_first((2, 1, 2, 1, 1), (5, 6), len(caches))
            return (tuple((lines, None) for lines in caches),) + first[1:]
        plan = (2, 1, 2, 1, 1)
        own, other, shared, old = (0, "owned", (9,)), (0, "owned", (5,)), (0, "shared", (5,)), (0, "shared", (4,))
        for caches, good in ((((own,), ()), True), (((own,), (other,)), False), (((own,), (shared,)), False),
                             (((other,), (shared,)), False), (((shared,), (shared,)), True), (((shared,), (old,)), False),
                             (((old,), ()), False), (((own,), ((1, "shared", (6,)),)), True)):
            check_boolean(self, good, fits(plan, with_caches(*caches)))
        copies = with_caches((shared,), (old,), (old,))
        for ways, good in (((((("gave", 0, (4,)),), ()), ((), ()), ((), ())), False),):
            check_boolean(self, good, fits(plan, copies[:2] + (ways,)))
        copies = with_caches((old,), (old,), ())
        letters = (("back", 0, (7,)), ("lost", 0, (4,)), ("gave", 1, (3,)))
        self.assertIs(fits(plan, copies[:2] + ((((), ()), (letters, ()), ((("gave", 0, (1,)),), ())),)), True)
        self.assertIs(fits(plan, copies[:2] + ((((("gave", 0, (1,)),), ()), (letters, ()), ((), ())),)), False)
        self.assertEqual(memory_now(plan, (copies[0],) + copies[1:2] + ((((), ()), (letters, ()), ((), ())),)), (4, 3))

    def test_numbers_of_cores_and_lines(self):
        plan = (4, 2, 1, 1, 1)
        caches, homes, ways = copies_first(plan, (5, 6, 7, 8), 1)
        for cores in range(7):
            check_boolean(self, 1 <= cores <= 4, fits(plan, (caches * cores, homes, ways * cores)))
        self.assertIs(fits(plan, (caches, homes, ways * 2)), False)
        self.assertIs(fits(plan, (caches * 2, homes, ways)), False)
        self.assertIs(fits(plan, (caches, homes[:1], ways)), False)
        self.assertIs(fits(plan, (caches, homes * 2, ways)), False)
        one, two = (0, "shared", (5, 6)), (1, "shared", (7, 8))
        for room in (1, 2, 4):
            wide = (4, 2, room, 1, 1)
            for lines, good in (((one,), True), ((two,), True), ((one, two), room > 1), ((two, one), False), ((one, one), False)):
                check_boolean(self, good, fits(wide, (((lines, None),), homes, ways)))
                check_boolean(self, good, fits(wide, (((lines, (0, "own")),), homes, ways)))

    def test_letters(self):
        plan = (4, 2, 1, 1, 1)
        caches, homes, _ = copies_first(plan, (5, 6, 7, 8), 1)
        out = (("want", 1, "read"), ("back", 0, (1, 2)), ("gave", 1, (1, 2)), ("lost", 0, (1, 2)), ("gone", 1))
        into = (("have", 1, "owned", (1, 2)), ("share", 0), ("lose", 1))
        self.assertIs(fits(plan, (caches, homes, ((out, into),))), True)
        for letter in out:
            self.assertIs(fits(plan, (caches, homes, (((), (letter,)),))), False)
        for letter in into:
            self.assertIs(fits(plan, (caches, homes, (((letter,), ()),))), False)
        for letter in out + into:
            for other in list(variants(letter)) + [(), ("none", 0), (Odd(), 0), ([], 0), letter[:1]]:
                for way in (((other,), ()), ((), (other,))):
                    value = (caches, homes, (way,))
                    check_boolean(self, reference_fits(plan, value), fits(plan, value))

    def test_any_object(self):
        for value in WRONG:
            self.assertIs(fits(PLAN, value), False)


if __name__ == "__main__":
    unittest.main()
