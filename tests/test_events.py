import itertools
import unittest

from touchroad.ends import ends, run_leads
from touchroad.errors import InvalidBook, InvalidChoice, InvalidMemory, InvalidRun, NotFree, NotShort
from touchroad.events import (behind, choice_of, end_of, events, is_short, kept, own_behind, ring, run_of)
from touchroad.plain import plain_run
from tests.helpers import (STRAIGHT_NAMES, WRONG, Draw, check_boolean, check_examples, check_raises, drawn_book, same,
                           variants)
from tests.reference import Plain, all_ends

EXAMPLES = """
>>> from touchroad.events import choice_of, end_of, events, is_short, kept, ring
>>> crossed = ((("set", 1, 1), ("store", 1, 0, 0), ("load", 2, 0, 1)), (("set", 1, 1), ("store", 1, 0, 1), ("load", 2, 0, 0)))
>>> handed = ((("set", 1, 1), ("store", 1, 0, 0), ("store", 1, 0, 1)), (("load", 1, 0, 1), ("load", 2, 0, 0)))
>>> none = ((0, 1, 0, 0, 0, 0, 0, 0), (0, 1, 0, 0, 0, 0, 0, 0))
>>> [is_short(handed), events(handed, (0, 0)), kept(crossed, (0, 0)), kept(handed, (0, 0))]
[True, [(0, 1, 'store', 0), (0, 2, 'store', 1), (1, 0, 'load', 1), (1, 1, 'load', 0)], [], [(0, 1), (2, 3)]]
>>> [ring(crossed, (0, 0), (((1, -1), (3, -1)), ((0,), (2,)))), ring(handed, (0, 0), (((2, 1), (3, -1)), ((0,), (1,)))) is None, end_of(crossed, (0, 0), (((1, -1), (3, -1)), ((0,), (2,)))) == (none, (1, 1))]
[None, False, True]
"""

CROSSED = ((("set", 1, 1), ("store", 1, 0, 0), ("load", 2, 0, 1)), (("set", 1, 1), ("store", 1, 0, 1), ("load", 2, 0, 0)))
READS, WRITES = ("load", "swap", "addto"), ("store", "swap", "addto")


def short_books(seed, many, most_choices=600, accesses=5):
    """Drawn short books with memories and all their choices."""
    draw = Draw(seed)
    while many:
        book = drawn_book(draw, 2 + draw.below(2), 5, STRAIGHT_NAMES + ("load", "store", "load", "store", "swap") * 2)
        memory = tuple(draw.word() for _ in range(1 + draw.below(3)))
        if not is_short(book):
            continue
        found = events(book, memory)
        if not 2 <= len([e for e in found if e[2] != "fence"]) <= accesses:
            continue
        choices = all_choices(found, memory)
        if 2 <= len(choices) <= most_choices:
            many -= 1
            yield book, memory, found, choices


def all_choices(found, memory):
    readers = [i for i, e in enumerate(found) if e[2] in READS]
    writers = [[i for i, e in enumerate(found) if e[2] in WRITES and e[3] == cell] for cell in range(len(memory))]
    sources = [[-1] + [w for w in writers[found[i][3]] if w != i] for i in readers]
    return [(tuple(zip(readers, picked)), orders) for picked in itertools.product(*sources)
            for orders in itertools.product(*[list(itertools.permutations(w)) for w in writers])]


def is_kept(found, i, k):
    if found[i][0] != found[k][0] or i >= k:
        return False
    between = [e[2] for e in found[i + 1:k]]
    return not (found[i][2] == "store" and found[k][2] == "load"
                and not any(name in ("fence", "swap", "addto") for name in between))


def third_or_fourth(found, choice, i, k):
    """Whether a pair is of kind 3 or 4 of behind."""
    reads, orders = dict(choice[0]), choice[1]
    for order in orders:
        if i in order and k in order and order.index(i) < order.index(k):
            return True
        if i in reads and k in order and found[i][3] == found[k][3]:
            if reads[i] == -1 or order.index(reads[i]) < order.index(k):
                return True
    return False


def is_behind(found, choice, i, k):
    if i == k:
        return False
    if is_kept(found, i, k) or third_or_fourth(found, choice, i, k):
        return True
    return dict(choice[0]).get(k) == i and found[i][0] != found[k][0]


def is_own_behind(found, choice, i, k):
    if i == k or found[i][3] != found[k][3] or found[i][3] == -1:
        return False
    if found[i][0] == found[k][0] and i < k:
        return True
    return dict(choice[0]).get(k) == i or third_or_fourth(found, choice, i, k)


def has_ring(pairs):
    """Whether pairs lead from some event back to itself."""
    reach = set(pairs)
    while True:
        more = {(a, d) for a, b in reach for c, d in reach if b == c} - reach
        if not more:
            return any(a == b for a, b in reach)
        reach |= more


def runs_choices(book, memory, found):
    """The choices of all runs, each with the ends, by a search that keeps who wrote what."""
    number = {(e[0], e[1]): i for i, e in enumerate(found)}
    first = (tuple(0 for _ in book), tuple(() for _ in book), tuple(() for _ in memory), ())
    seen_, waiting, told = {first}, [first], set()
    while waiting:
        rows, late, orders, reads = waiting.pop()
        last = True
        for c, code in enumerate(book):
            options = []
            if late[c]:
                w, rest = late[c][0], late[c][1:]
                cell = found[w][3]
                options.append((rows, late[:c] + (rest,) + late[c + 1:],
                                orders[:cell] + (orders[cell] + (w,),) + orders[cell + 1:], reads))
            if rows[c] < len(code) and code[rows[c]] != ("stop",):
                event = number.get((c, rows[c]))
                on = rows[:c] + (rows[c] + 1,) + rows[c + 1:]
                name = None if event is None else found[event][2]
                if name in ("fence", "swap", "addto") and late[c]:
                    pass
                elif name in (None, "fence"):
                    options.append((on, late, orders, reads))
                elif name == "store":
                    options.append((on, late[:c] + (late[c] + (event,),) + late[c + 1:], orders, reads))
                else:
                    cell = found[event][3]
                    own = [w for w in late[c] if found[w][3] == cell]
                    source = own[-1] if own else orders[cell][-1] if orders[cell] else -1
                    after = orders
                    if name != "load":
                        after = orders[:cell] + (orders[cell] + (event,),) + orders[cell + 1:]
                    options.append((on, late, after, reads + ((event, source),)))
                last = False
            last = last and not late[c]
            for option in options:
                if option not in seen_:
                    seen_.add(option)
                    waiting.append(option)
        if last:
            told.add((tuple(sorted(reads)), orders))
    return told


class Short(unittest.TestCase):
    def test_examples(self):
        check_examples(self, EXAMPLES)

    def test_is_short(self):
        load, taken = ("load", 1, 0, 0), ("load", 2, 1, 0)
        for rows, good in (
                ((), True), ((load,), True), ((load, taken), False), ((load, ("store", 2, 1, 0)), False),
                ((load, ("store", 1, 2, 0)), True), ((load, ("swap", 1, 1, 2, 0)), True),
                ((load, ("swap", 2, 2, 1, 0)), False), ((load, ("addto", 2, 2, 1, 0)), False),
                ((("swap", 1, 2, 3, 0), taken), False), ((("addto", 1, 2, 3, 0), taken), False),
                ((load, ("set", 1, 0), taken), True), ((load, ("xor", 1, 1, 1), taken), False),
                ((load, ("and", 1, 2, 1), taken), False), ((load, ("add", 1, 2, 3), taken), True),
                ((load, ("add", 3, 1, 2), ("add", 4, 0, 3), ("load", 5, 4, 0)), False),
                ((load, ("add", 3, 1, 2), ("set", 1, 0), ("load", 5, 3, 0)), False),
                ((load, ("stop",), taken), True), ((load, ("store", 0, 0, 0), taken), False),
                ((load, ("fence",), ("gap",)), True), ((("jump", 1),), False), ((("ifzero", 0, 1),), False),
                ((("stop",), ("jump", 0)), False), ((("stop",), ("ifzero", 0, 0)), False),
                ((("load", 1, 1, 0), ("load", 2, 2, 0)), True), ((("load", 1, 1, 0), ("load", 1, 1, 0)), False),
                ((("swap", 1, 1, 1, 0),), True)):
            check_boolean(self, good, is_short((rows,)))
            check_boolean(self, good, is_short(((("gap",),), rows)))

    def test_events(self):
        book = ((("set", 1, 65535), ("add", 2, 1, 1), ("store", 1, 2, 65535), ("gap",), ("fence",), ("stop",), ("store", 1, 1, 1)),
                (), (("swap", 1, 2, 3, 4), ("addto", 1, 2, 3, 5), ("load", 4, 5, 6)))
        found = events(book, (0, 0, 0))
        self.assertTrue(same(found, [
            (0, 2, "store", (65534 + 65535) % 3), (0, 4, "fence", -1), (2, 0, "swap", 1), (2, 1, "addto", 2), (2, 2, "load", 0)]))
        self.assertEqual(events(((),), (0,)), [])
        for cells in (1, 2, 31, 32):
            self.assertEqual(events(book, (0,) * cells)[0][3], (65534 + 65535) % cells)

    def test_kept(self):
        for book, memory, found, _ in short_books(51, 60):
            many = range(len(found))
            self.assertTrue(same(kept(book, memory), [(i, k) for i in many for k in many if is_kept(found, i, k)]))
        rows = (("store", 0, 0, 0), ("load", 1, 0, 0), ("fence",), ("load", 1, 0, 1), ("store", 0, 0, 0))
        self.assertEqual(kept((rows,), (0, 0)), [(0, 2), (0, 3), (0, 4), (1, 2), (1, 3), (1, 4), (2, 3), (2, 4), (3, 4)])
        for middle, good in ((("gap",), False), (("swap", 1, 0, 0, 1), True), (("addto", 1, 0, 0, 1), True), (("fence",), True),
                             (("store", 0, 0, 1), False), (("load", 2, 0, 1), False)):
            rows = (("store", 0, 0, 0), middle, ("load", 1, 0, 0))
            last = len(events((rows,), (0, 0))) - 1
            self.assertEqual((0, last) in kept((rows,), (0, 0)), good)


class Choices(unittest.TestCase):
    def test_pairs(self):
        for book, memory, found, choices in short_books(52, 40, 100):
            many = range(len(found))
            for choice in choices:
                self.assertTrue(same(behind(book, memory, choice), [
                    (i, k) for i in many for k in many if is_behind(found, choice, i, k)]))
                self.assertTrue(same(own_behind(book, memory, choice), [
                    (i, k) for i in many for k in many if is_own_behind(found, choice, i, k)]))

    def test_rings(self):
        kinds = set()
        for book, memory, found, choices in short_books(53, 40, 150):
            for choice in choices:
                pairs = {"behind": set(behind(book, memory, choice)), "own": set(own_behind(book, memory, choice))}
                told = ring(book, memory, choice)
                if told is None:
                    self.assertFalse(has_ring(pairs["behind"]) or has_ring(pairs["own"]))
                    continue
                kinds.add(told[0])
                self.assertTrue(type(told) is tuple and type(told[1]) is tuple and len(told) == 2)
                self.assertGreaterEqual(len(told[1]), 2)
                self.assertEqual(len(set(told[1])), len(told[1]))
                for pair in zip(told[1], told[1][1:] + told[1][:1]):
                    self.assertIn(pair, pairs[told[0]])
        self.assertEqual(kinds, {"behind", "own"})

    def test_both_facts_and_all_choices(self):
        free = 0
        for book, memory, found, choices in short_books(54, 120):
            of_runs = runs_choices(book, memory, found)
            told = set()
            for choice in choices:
                if ring(book, memory, choice) is not None:
                    self.assertNotIn(choice, of_runs)
                    check_raises(self, NotFree, choice, end_of, book, memory, choice)
                    check_raises(self, NotFree, choice, run_of, book, memory, choice)
                    continue
                free += 1
                self.assertIn(choice, of_runs)
                run, end = run_of(book, memory, choice), end_of(book, memory, choice)
                self.assertIs(type(run), list)
                self.assertIs(run_leads(book, memory, end, run), True)
                self.assertTrue(same(choice_of(book, memory, run), choice))
                told.add(end)
            self.assertEqual(sorted(told), all_ends(book, memory))
            self.assertEqual(sorted(told), ends(book, memory))
            self.assertLessEqual(of_runs, set(choices))
        self.assertGreater(free, 300)

    def test_choices_of_drawn_runs(self):
        draw = Draw(55)
        for book, memory, found, choices in short_books(56, 40, 600, 6):
            for _ in range(5):
                machine, run = Plain(book, memory), []
                while machine.steps():
                    run.append(draw.one_of(machine.steps()))
                    machine.go(run[-1])
                choice = choice_of(book, memory, run)
                self.assertIn(choice, choices)
                self.assertIs(ring(book, memory, choice), None)
                self.assertEqual(end_of(book, memory, choice), machine.end())
                self.assertTrue(same(choice_of(book, memory, run_of(book, memory, choice)), choice))

    def test_many_stands(self):
        rows = tuple(("store", 0, 0, k) for k in range(4)) + (("load", 1, 0, 0), ("load", 2, 0, 1))
        book = (rows, rows[:4])
        choice = (((4, 0), (5, 1)), ((0, 6), (1, 7), (2, 8), (3, 9)))
        self.assertIs(ring(book, (0,) * 4, choice), None)
        run = run_of(book, (0,) * 4, choice)
        self.assertEqual(choice_of(book, (0,) * 4, run), choice)
        fences = ((("fence",),) * 38 + (("store", 0, 0, 0), ("load", 1, 0, 0)),) * 4
        writers = (38, 78, 118, 158)
        choice = (tuple((i + 1, i) for i in writers), (writers,))
        self.assertEqual(len(events(fences, (3,))), 160)
        self.assertEqual(ring(fences, (3,), choice), None)
        self.assertEqual(choice_of(fences, (3,), run_of(fences, (3,), choice)), choice)

    def test_sums_of_sums(self):
        rows = (("load", 1, 0, 0),) + (("add", 1, 1, 1),) * 36 + (("store", 1, 0, 0),)
        choice = (((0, -1),), ((1,),))
        self.assertEqual(end_of((rows,), (1,), choice), (((0,) * 8,), (0,)))
        self.assertEqual(end_of((rows[:10] + rows[-1:],), (1,), choice), (((0, 512, 0, 0, 0, 0, 0, 0),), (512,)))


class Wrong(unittest.TestCase):
    def test_what_is_no_choice(self):
        for book, memory, found, choices in short_books(57, 15, 100):
            good = choices[len(choices) // 2]
            for value in list(variants(good)) + list(WRONG):
                if any(same(value, choice) for choice in choices):
                    continue
                for call in (behind, own_behind, ring, end_of, run_of):
                    check_raises(self, InvalidChoice, value, call, book, memory, value)

    def test_sources(self):
        for choice in ((((1, 0), (3, -1)), ((0,), (2,))), (((1, 1), (3, -1)), ((0,), (2,))), (((3, -1), (1, -1)), ((0,), (2,))),
                       (((1, -1),), ((0,), (2,))), (((1, -1), (3, -1)), ((2,), (0,))), (((1, -1), (3, -1)), ((0,),)),
                       (((1, -1), (3, -1)), ((0, 0), (2,))), (((1, -1), (3, -1)), ((), (2,))),
                       (((1, -1), (3, -1)), ((0,), (2,), ())), (((1, -2), (3, -1)), ((0,), (2,))),
                       (((1, -1), (3, False)), ((0,), (2,))), (((1, -1), (3, -1)), ((False,), (2,)))):
            check_raises(self, InvalidChoice, choice, ring, CROSSED, (0, 0), choice)
        addtos = ((("addto", 1, 0, 0, 0),),)
        check_raises(self, InvalidChoice, (((0, 0),), ((0,),)), ring, addtos, (0,), (((0, 0),), ((0,),)))
        self.assertIs(ring(addtos, (0,), (((0, -1),), ((0,),))), None)

    def test_what_is_no_run(self):
        run = [("do", 0)] * 3 + [("do", 1)] * 3 + [("flush", 0), ("flush", 1)]
        self.assertEqual(choice_of(CROSSED, (0, 0), run), (((1, -1), (3, -1)), ((0,), (2,))))
        for value in list(WRONG) + [run[:-1], run + [("flush", 1)], tuple(run), run[1:], [("do", False)] + run[1:],
                                    [["do", 0]] + run[1:], run[:6] + [("flush", 1), ("flush", 1)], run + [None], [None]]:
            check_raises(self, InvalidRun, value, choice_of, CROSSED, (0, 0), value)

    def test_sequence_of_the_errors(self):
        jumping = ((("jump", 1),),)
        choice = (((1, -1), (3, -1)), ((0,), (2,)))
        for value in WRONG:
            check_raises(self, InvalidBook, value, is_short, value)
            for call, rest in ((events, ()), (kept, ()), (behind, (value,)), (own_behind, (value,)), (ring, (value,)),
                               (end_of, (value,)), (choice_of, (value,)), (run_of, (value,))):
                check_raises(self, InvalidBook, value, call, value, value, *rest)
                check_raises(self, NotShort, jumping, call, jumping, value, *rest)
                check_raises(self, InvalidMemory, value, call, CROSSED, value, *rest)
        self.assertEqual(end_of(book=CROSSED, memory=(0, 0), choice=choice)[1], (1, 1))
        self.assertEqual(len(run_of(book=CROSSED, memory=(0, 0), choice=choice)), 8)
        self.assertEqual(choice_of(book=CROSSED, memory=(0, 0), run=run_of(CROSSED, (0, 0), choice)), choice)
        self.assertEqual(len(plain_run(CROSSED, (0, 0), run_of(CROSSED, (0, 0), choice))), 2)


if __name__ == "__main__":
    unittest.main()
