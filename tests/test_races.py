import itertools
import unittest

from touchroad.ends import ends, never_ends, one_row_ends
from touchroad.errors import InvalidBook, InvalidMemory
from touchroad.plain import one_row_run
from touchroad.races import late_race, late_race_shown, race, race_shown
from tests.helpers import WRONG, Draw, check_boolean, check_examples, check_raises, drawn_book, lively_book, same, shares, variants
from tests.reference import Plain, all_stands, is_stuck_somewhere
from tests.test_fences import crossing_book

EXAMPLES = """
>>> from touchroad.races import late_race, race
>>> crossed = ((("set", 1, 1), ("store", 1, 0, 0), ("load", 2, 0, 1)), (("set", 1, 1), ("store", 1, 0, 1), ("load", 2, 0, 0)))
>>> handed = ((("set", 1, 1), ("store", 1, 0, 0), ("store", 1, 0, 1)), (("load", 1, 0, 1), ("load", 2, 0, 0)))
>>> [late_race(crossed, (0, 0)), race(handed, (0, 0)), late_race(handed, (0, 0))]
[([0, 0, 1], 0, 1), ([0, 0], 0, 1), None]
"""


def access(machine, core):
    if machine.stopped(core):
        return None
    name, *parts = machine.book[core][machine.row[core]]
    if name not in ("load", "store", "swap", "addto"):
        return None
    return name, (machine.regs[core][parts[-2]] + parts[-1]) % len(machine.memory)


def after(book, memory, cores):
    """The one-row machine after cores, and the names of the instructions that each core did; None if a core cannot."""
    machine, told = Plain(book, memory, late=False), [[] for _ in book]
    for core in cores:
        if type(core) is not int or not 0 <= core < len(book) or machine.stopped(core):
            return None
        told[core].append(book[core][machine.row[core]][0])
        machine.go(("do", core))
    return machine, told


def has_late(names):
    strong = [at for at, name in enumerate(names) if name in ("fence", "swap", "addto")]
    return "store" in names[(strong[-1] + 1 if strong else 0):]


def races(machine, told, one, other, only_late):
    first, second = access(machine, one), access(machine, other)
    if first is None or second is None or first[1] != second[1]:
        return False
    names = {first[0], second[0]}
    if names == {"load"} or names <= {"swap", "addto"}:
        return False
    return not only_late or any(a[0] == "load" and has_late(told[c]) for a, c in ((first, one), (second, other)))


def searched(book, memory, only_late, most):
    """The first race among all lists of cores of at most so many items, by length and then as lists compare."""
    lists = [[]]
    for _ in range(most + 1):
        longer = []
        for cores in lists:
            found = after(book, memory, cores)
            if found is None:
                continue
            for one, other in itertools.combinations(range(len(book)), 2):
                if races(*found, one, other, only_late):
                    return cores, one, other
            longer += [cores + [core] for core in range(len(book))]
        lists = longer
    return None


def books(seed, many):
    draw = Draw(seed)
    while many:
        kind = draw.below(4)
        if kind == 0:
            book = drawn_book(draw, 2 + draw.below(2), 3)
        elif kind == 3:
            book = crossing_book(draw)
        else:
            book = lively_book(draw, 2, 4) if kind == 1 else lively_book(draw, 3, 2)
        if sum(map(len, book)) > 7 or any(i[0] in ("jump", "ifzero") and i[-1] <= at for r in book for at, i in enumerate(r)):
            continue
        many -= 1
        yield draw, book, tuple(draw.below(3) for _ in range(1 + draw.below(3)))


class Races(unittest.TestCase):
    def test_examples(self):
        check_examples(self, EXAMPLES)

    def test_against_a_plain_search(self):
        found = [set(), set()]
        for draw, book, memory in books(231, 200):
            most = sum(map(len, book))
            for call, shown, only_late in ((race, race_shown, False), (late_race, late_race_shown, True)):
                told = call(book, memory)
                self.assertTrue(same(told, searched(book, memory, only_late, most)), (book, memory, told))
                found[only_late].add(None if told is None else len(told[0]))
                if told is not None:
                    check_boolean(self, True, shown(book, memory, told))
                    one_row_run(book, memory, told[0])
        self.assertTrue({None, 0, 1, 2} <= found[0], found)
        self.assertTrue({None, 2, 3, 4} <= found[1], found)

    def test_what_is_shown(self):
        counts = [0, 0, 0, 0]
        for draw, book, memory in books(232, 150):
            for _ in range(12):
                cores = [draw.below(len(book)) for _ in range(draw.below(7))]
                if draw.below(3):
                    cores = [c for at, c in enumerate(cores) if cores[:at].count(c) < len(book[c]) - 1]
                at = after(book, memory, cores)
                for one in range(-1, 4):
                    for other in range(-1, 4):
                        for only_late, shown in ((False, race_shown), (True, late_race_shown)):
                            good = (at is not None and 0 <= one < other < len(book) and races(*at, one, other, only_late))
                            check_boolean(self, good, shown(book, memory, (cores, one, other)))
                            counts[2 * only_late + good] += 1
        self.assertGreater(min(counts), 5, counts)

    def test_books_with_and_without_races(self):
        store, load, swap, addto = ("store", 0, 7, 0), ("load", 1, 7, 0), ("swap", 1, 0, 7, 0), ("addto", 1, 0, 7, 0)
        for one, other, good in (
                (store, store, True), (store, load, True), (load, store, True), (load, load, False), (swap, swap, False),
                (swap, addto, False), (addto, addto, False), (swap, store, True), (store, addto, True), (load, swap, True),
                (addto, load, True), (("fence",), store, False), (("gap",), store, False), (("stop",), store, False),
                (("set", 1, 1), load, False)):
            book = ((one,), (other,))
            self.assertEqual(race(book, (0,)), ([], 0, 1) if good else None)
            self.assertIsNone(late_race(book, (0,)))
            check_boolean(self, good, race_shown(book, (0,), ([], 0, 1)))
            check_boolean(self, False, race_shown(book, (0,), ([], 1, 0)))
        self.assertIsNone(race(((store,), ()), (0,)))
        self.assertIsNone(race(((store, load),), (0,)))
        self.assertEqual(race(((), (store,), (), (load,)), (0,)), ([], 1, 3))

    def test_what_ends_a_late_store(self):
        for middle, good in ((("fence",), False), (("swap", 2, 0, 7, 1), False), (("addto", 2, 0, 7, 1), False), (("gap",), True),
                             (("load", 2, 7, 1), True), (("store", 0, 7, 1), True), (("set", 3, 3), True)):
            book = ((("store", 0, 7, 2), middle, ("load", 1, 7, 0)), (("store", 0, 7, 0),))
            self.assertEqual(late_race(book, (0, 0, 0)), ([0, 0], 0, 1) if good else None, middle)
            self.assertIsNotNone(race(book, (0, 0, 0)))
            check_boolean(self, good, late_race_shown(book, (0, 0, 0), ([0, 0], 0, 1)))
        # The store of the other core makes no load of this one late.
        book = ((("load", 1, 7, 0),), (("store", 0, 7, 1), ("store", 0, 7, 0)))
        self.assertIsNone(late_race(book, (0, 0)))
        book = ((("load", 1, 7, 0),), (("store", 0, 7, 1), ("swap", 1, 0, 7, 0), ("store", 0, 7, 0)))
        self.assertIsNone(late_race(book, (0, 0)))
        # Two ways to one stand, of which only one has done a store: the list that shows the late race is found.
        book = ((("load", 2, 7, 1), ("ifzero", 2, 3), ("store", 0, 7, 0), ("load", 3, 7, 0)),
                (("set", 1, 1), ("store", 1, 7, 1), ("store", 0, 7, 1), ("store", 0, 7, 0)))
        self.assertEqual(late_race(book, (0, 0)), searched(book, (0, 0), True, 9))

    def test_cells_that_registers_determine(self):
        book = ((("set", 1, 65535), ("store", 0, 1, 2)), (("set", 2, 5), ("load", 3, 2, 1)))
        for cells in range(1, 33):
            told = race(book, (0,) * cells)
            self.assertEqual(told, ([0, 1], 0, 1) if (65535 + 2) % cells == 6 % cells else None)
        self.assertEqual(race(((("load", 1, 7, 0), ("store", 0, 1, 0)), (("load", 2, 7, 3),)), (3, 9, 9, 9)), ([0], 0, 1))

    def test_pairs_ascend_and_the_first_one_is_told(self):
        store, load = ("store", 0, 7, 0), ("load", 0, 7, 0)
        self.assertEqual(race(((load,), (load,), (store,), (store,)), (0,)), ([], 0, 2))
        self.assertEqual(race(((("gap",), store), (load,), (load,), (load,)), (0,)), ([0], 0, 1))
        self.assertEqual(race(((("gap",), store), (("gap",), load), (load,)), (0,)), ([0], 0, 2))
        self.assertEqual(race(((("gap",), load), (("gap",), store), (("gap",), ("gap",), store)), (0,)), ([0, 1], 0, 1))

    def test_other_objects_are_not_shown(self):
        book, memory = ((("gap",), ("store", 0, 7, 0), ("load", 1, 7, 0)), (("store", 0, 7, 0),)), (0,)
        good = ([0, 0], 0, 1)
        for shown in (race_shown, late_race_shown):
            check_boolean(self, True, shown(book, memory, good))
            for wrong in WRONG + tuple(v for v in variants(good) if not same(v, good)) + (
                    ((0, 0), 0, 1), ([0, 0], False, True), ([0, 0], 0, True), ([0, False], 0, 1), ([0, 0, 0, 0], 0, 1),
                    ([0, 0, 2], 0, 1), ([0, -1], 0, 1), ([0, 0], 1, 0), ([0, 0], 0, 0), ([0, 0], 1, 1), ([0, 0], 0, 2), ([0], 0, 0),
                    [[0, 0], 0, 1], ([0, 0], 0, 1, 1), ([0, None], 0, 1), ([[0]], 0, 1)):
                check_boolean(self, False, shown(book, memory, wrong))
        check_boolean(self, True, race_shown(book, memory, ([0], 0, 1)))
        check_boolean(self, False, late_race_shown(book, memory, ([0], 0, 1)))
        self.assertEqual(race(book, memory), ([0], 0, 1))

    def test_books_without_a_late_race(self):
        """R1, for drawn books."""
        free, with_race = 0, 0
        draw = Draw(233)
        while free < 60:
            book = draw.one_of((drawn_book(draw, 2, 4), lively_book(draw, 2, 5), crossing_book(draw)))
            memory = (draw.below(2), draw.below(2))
            if all_stands(book, memory, most=600) is None:
                continue
            if late_race(book, memory) is None:
                free += 1
                self.assertEqual(ends(book, memory), one_row_ends(book, memory))
                with_race += race(book, memory) is not None
                self.assertEqual(never_ends(book, memory), is_stuck_somewhere(all_stands(book, memory, late=False)))
        self.assertGreater(with_race, 3)

    def test_errors_names_and_new_lists(self):
        book, memory = ((("gap",), ("store", 0, 7, 0)), (("load", 1, 7, 0),)), (0,)
        for wrong in WRONG + (list(book), ((("load", 8, 0, 0),),)):
            for call, rest in ((race, ()), (late_race, ()), (race_shown, (None,)), (late_race_shown, (None,))):
                check_raises(self, InvalidBook, wrong, call, wrong, wrong, *rest)
        for wrong in WRONG + ([0], (-1,), (0,) * 33):
            for call, rest in ((race, ()), (late_race, ()), (race_shown, (None,)), (late_race_shown, (None,))):
                check_raises(self, InvalidMemory, wrong, call, book, wrong, *rest)
        first = race(book=book, memory=memory)
        self.assertEqual(first, ([0], 0, 1))
        self.assertFalse(shares(first[0], race(book, memory)[0]))
        first[0].append(1)
        self.assertEqual(race(book, memory), ([0], 0, 1))
        self.assertIsNone(late_race(book=book, memory=memory))
        cores = [0]
        check_boolean(self, True, race_shown(book=book, memory=memory, value=(cores, 0, 1)))
        check_boolean(self, False, late_race_shown(book, memory, (cores, 0, 1)))
        self.assertEqual(cores, [0])
        check_boolean(self, False, late_race_shown(book=book, memory=memory, value=([0], 0, 1)))


if __name__ == "__main__":
    unittest.main()
