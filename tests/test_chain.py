import itertools
import unittest

from touchroad.chain import (bad_sorted_choice, barred, ends_of, gapped, least_bars, least_gaps, least_gaps_for_all, parting,
                             plain_for_all)
from touchroad.ends import ends, one_row_ends
from touchroad.errors import InvalidBook, InvalidMachine, InvalidMemory, InvalidPlaces
from touchroad.events import events, is_short, ring
from touchroad.fences import fenced
from touchroad.sortedevents import sorted_ring
from touchroad.sortedmachine import sorted_ends
from tests.helpers import (STRAIGHT_NAMES, WRONG, Draw, check_boolean, check_examples, check_raises, drawn_book, passing_book, same,
                           shares)
from tests.reference import all_ends, all_stands
from tests.reference_sorted import all_places, no_bars, sorted_all_ends, sorted_stands, with_bars
from tests.test_events import all_choices
from tests.test_fences import CROSSED, NO_PLACES, a_book, check_errors_for_all

EXAMPLES = """
>>> from touchroad.chain import ends_of, gapped, least_gaps, parting
>>> handed = ((("set", 1, 1), ("store", 1, 0, 0), ("store", 1, 0, 1)), (("load", 1, 0, 1), ("load", 2, 0, 0)))
>>> [len(ends_of("plain", handed, (0, 0))), len(ends_of("sorted", handed, (0, 0))), least_gaps(handed, (0, 0)), parting("plain", "one row", handed, (0, 0))]
[3, 4, ((2,), ()), None]
>>> parting("plain", "sorted", handed, (0, 0))
((((0, 1, 0, 0, 0, 0, 0, 0), (0, 1, 0, 0, 0, 0, 0, 0)), (1, 1)), 'sorted')
>>> gapped(handed, ((2,), ()))[0]
(('set', 1, 1), ('store', 1, 0, 0), ('gap',), ('store', 1, 0, 1))
"""

MACHINES = ("one row", "plain", "sorted")
NO_MACHINES = WRONG + ("one_row", "One row", "plain ", ("plain",), ["sorted"], b"plain", 0, "onerow")
HANDED = ((("set", 1, 1), ("store", 1, 0, 0), ("store", 1, 0, 1)), (("load", 1, 0, 1), ("load", 2, 0, 0)))


def told_ends(machine, book, memory):
    return sorted_all_ends(book, memory) if machine == "sorted" else all_ends(book, memory, late=machine == "plain")


def books(seed, many, most=300, rows=8):
    draw = Draw(seed)
    while many:
        kind = draw.below(4)
        book = passing_book(draw) if kind < 2 else a_book(draw) if kind == 2 else drawn_book(draw, 2, 4)
        memory = (draw.below(2), draw.below(2))
        if sum(map(len, book)) <= rows and sorted_stands(book, memory, most=most) is not None:
            many -= 1
            yield draw, book, memory


def bad_ones(book, memory):
    return sorted(choice for choice in all_choices(events(book, memory), memory)
                  if sorted_ring(book, memory, choice) is None and ring(book, memory, choice) is not None)


class Compared(unittest.TestCase):
    def test_examples(self):
        check_examples(self, EXAMPLES)

    def test_ends_and_partings(self):
        parted = set()
        for draw, book, memory in books(261, 120):
            told = {machine: told_ends(machine, book, memory) for machine in MACHINES}
            self.assertTrue(set(told["one row"]) <= set(told["plain"]) <= set(told["sorted"]))
            for one in MACHINES:
                self.assertTrue(same(ends_of(one, book, memory), told[one]))
                for other in MACHINES:
                    alone = sorted([(end, one) for end in told[one] if end not in told[other]]
                                   + [(end, other) for end in told[other] if end not in told[one]])
                    found = parting(one, other, book, memory)
                    self.assertTrue(same(found, alone[0] if alone else None))
                    parted.add((one, other, found and found[1]))
        for one, other in itertools.combinations(MACHINES, 2):
            self.assertTrue({(one, other, None), (one, other, other), (other, one, None), (other, one, other)} <= parted)

    def test_errors_in_their_sequence(self):
        for wrong in NO_MACHINES:
            check_raises(self, InvalidMachine, wrong, ends_of, wrong, None, None)
            check_raises(self, InvalidMachine, wrong, parting, wrong, 5, None, None)
            check_raises(self, InvalidMachine, wrong, parting, "plain", wrong, None, None)
        for wrong in WRONG + (list(CROSSED),):
            for machine in MACHINES:
                check_raises(self, InvalidBook, wrong, ends_of, machine, wrong, wrong)
                check_raises(self, InvalidBook, wrong, parting, machine, "plain", wrong, wrong)
        for wrong in WRONG + ([0, 0], (True,), (0,) * 33):
            for machine in MACHINES:
                check_raises(self, InvalidMemory, wrong, ends_of, machine, CROSSED, wrong)
                check_raises(self, InvalidMemory, wrong, parting, machine, machine, CROSSED, wrong)

    def test_names_and_new_lists(self):
        first = ends_of(machine="sorted", book=HANDED, memory=(0, 0))
        self.assertFalse(shares([first], [ends_of("sorted", HANDED, (0, 0))]))
        first.clear()
        self.assertEqual(len(ends_of("sorted", HANDED, (0, 0))), 4)
        self.assertEqual(parting(one="sorted", other="one row", book=HANDED, memory=(0, 0))[1], "sorted")


class Inserted(unittest.TestCase):
    def test_where_each_t_leads(self):
        gap, fence = ("gap",), ("fence",)
        rows = (("ifzero", 0, 2), ("jump", 1), ("jump", 3))
        for fences, gaps, expected in (
                ((), (), rows),
                ((), (2,), (("ifzero", 0, 2), ("jump", 1), gap, ("jump", 4))),
                ((2,), (2,), (("ifzero", 0, 2), ("jump", 1), gap, fence, ("jump", 5))),
                ((0,), (0, 3), (gap, fence, ("ifzero", 0, 4), ("jump", 3), ("jump", 5), gap)),
                ((3,), (), (("ifzero", 0, 2), ("jump", 1), ("jump", 3), fence)),
                ((3,), (3,), (("ifzero", 0, 2), ("jump", 1), ("jump", 3), gap, fence)),
                ((0, 1), (1, 2), (fence, ("ifzero", 0, 5), gap, fence, ("jump", 2), gap, ("jump", 7)))):
            self.assertTrue(same(barred((rows,), (fences,), (gaps,)), (expected,)), (fences, gaps))
        self.assertEqual(barred(((), ()), ((0,), ()), ((0,), (0,))), ((gap, fence), (gap,)))

    def test_against_labels(self):
        draw = Draw(262)

        def places(book):
            return tuple(tuple(row for row in range(len(rows) + 1) if draw.below(3) == 0) for rows in book)
        for _ in range(150):
            book = drawn_book(draw, 1 + draw.below(4), 6)
            fences, gaps = places(book), places(book)
            self.assertTrue(same(barred(book, fences, gaps), with_bars(book, fences, gaps)))
            self.assertTrue(same(gapped(book, gaps), with_bars(book, no_bars(book), gaps)))
            self.assertTrue(same(barred(book, fences, no_bars(book)), fenced(book, fences)))
            self.assertTrue(same(barred(book, no_bars(book), gaps), gapped(book, gaps)))
            self.assertTrue(same(gapped(book, no_bars(book)), book))

    def test_errors_and_names(self):
        for wrong in NO_PLACES:
            check_raises(self, InvalidPlaces, wrong, gapped, CROSSED, wrong)
            check_raises(self, InvalidPlaces, wrong, barred, CROSSED, wrong, None)
            check_raises(self, InvalidPlaces, wrong, barred, CROSSED, ((0,), ()), wrong)
        for wrong in WRONG + (list(CROSSED),):
            check_raises(self, InvalidBook, wrong, gapped, wrong, wrong)
            check_raises(self, InvalidBook, wrong, barred, wrong, wrong, wrong)
        self.assertEqual(gapped(book=((),), places=((0,),)), ((("gap",),),))
        self.assertEqual(barred(book=((),), fences=((0,),), gaps=((0,),)), ((("gap",), ("fence",)),))

    def test_gaps_before_all_stores(self):
        """C3, for drawn books."""
        differ = 0
        for draw, book, memory in books(263, 80):
            places = tuple(tuple(row for row, i in enumerate(rows) if i[0] == "store") for rows in book)
            self.assertEqual(sorted_ends(gapped(book, places), memory), ends(gapped(book, places), memory))
            self.assertEqual(ends(gapped(book, places), memory), ends(book, memory))
            differ += sorted_ends(book, memory) != ends(book, memory)
        self.assertGreater(differ, 5)


class Least(unittest.TestCase):
    def test_least_gaps_against_all_places(self):
        needed = {}
        for draw, book, memory in books(264, 250, 200):
            found = least_gaps(book, memory)
            many = sum(map(len, found))
            needed[many] = needed.get(many, 0) + 1
            if needed[many] > 20:
                continue
            goal = set(all_ends(book, memory))
            first = next(places for places in all_places(book) if set(
                sorted_all_ends(with_bars(book, no_bars(book), places), memory)) <= goal)
            self.assertTrue(same(found, first), (book, memory, found, first))
            self.assertEqual(sorted_ends(gapped(book, found), memory), ends(book, memory))
        self.assertTrue({0, 1} <= set(needed), needed)
        self.assertGreater(needed[1], 5)

    def test_more_gaps(self):
        one, other = ("store", 1, 7, 0), ("store", 1, 7, 1)
        writer = (("set", 1, 1), one, other, ("store", 1, 7, 2))
        reader = (("load", 2, 7, 2), ("load", 3, 7, 1), ("load", 4, 7, 0))
        found = least_gaps((writer, reader), (0, 0, 0))
        self.assertEqual(found, ((2, 3), ()))
        swapped = (("addto", 5, 1, 7, 0), ("store", 1, 7, 1), ("gap",), ("store", 1, 7, 2))
        self.assertEqual(least_gaps((swapped, reader), (0, 0, 0)), ((), ()))
        again = (("set", 1, 1), ("store", 2, 7, 0), ("store", 1, 7, 1), ("ifzero", 2, 5), ("stop",), ("set", 2, 1), ("jump", 1))
        for memory in ((0, 0), (0, 1), (3, 0)):
            book = (again, (("load", 2, 7, 0), ("load", 3, 7, 1)))
            first = next(places for places in all_places(book) if set(
                sorted_all_ends(with_bars(book, no_bars(book), places), memory)) <= set(all_ends(book, memory)))
            self.assertEqual(least_gaps(book, memory), first)

    def all_bars(self, book):
        places = all_places(book)
        return sorted(itertools.product(places, places), key=lambda bars: (
            sum(map(len, bars[0] + bars[1])), sum(map(len, bars[0])), bars))

    def test_least_bars_against_all_bars(self):
        needed = {}
        for draw, book, memory in books(265, 120, 150, 6):
            found = least_bars(book, memory)
            kind = tuple(sum(map(len, places)) for places in found)
            needed[kind] = needed.get(kind, 0) + 1
            if needed[kind] > 10:
                continue
            goal = set(all_ends(book, memory, late=False))
            first = next(bars for bars in self.all_bars(book) if set(sorted_all_ends(with_bars(book, *bars), memory)) <= goal)
            self.assertTrue(same(found, first), (book, memory, found, first))
            self.assertEqual(ends_of("sorted", barred(book, *found), memory), one_row_ends(book, memory))
        self.assertTrue({(0, 0), (0, 1), (2, 0)} <= set(needed), needed)

    def test_bars_of_both_kinds(self):
        crossed = ((("store", 6, 7, 0), ("load", 2, 7, 1)), (("store", 6, 7, 1), ("load", 2, 7, 0)))
        one = tuple((("set", 6, 1),) + rows for rows in crossed)
        self.assertEqual(least_bars(one, (0, 0)), (((2,), (2,)), ((), ())))
        handed = ((("store", 7, 7, 0), ("store", 7, 7, 1)), (("load", 1, 7, 1), ("load", 2, 7, 0)))
        self.assertEqual(least_bars(handed, (5, 5)), (((), ()), ((1,), ())))
        both = ((("store", 7, 7, 0), ("store", 7, 7, 1), ("load", 3, 7, 2)), (("store", 7, 7, 2), ("load", 1, 7, 1), ("load", 2, 7, 0)))
        found = least_bars(both, (5, 5, 5))
        goal = set(all_ends(both, (5, 5, 5), late=False))
        few = sum(map(len, found[0] + found[1]))
        for bars in self.all_bars(both):
            if sum(map(len, bars[0] + bars[1])) > few or bars == found:
                break
            self.assertFalse(set(sorted_all_ends(with_bars(both, *bars), (5, 5, 5))) <= goal)
        self.assertEqual(bars, found)

    def test_errors_and_names(self):
        for wrong in WRONG + (list(CROSSED),):
            for call in (least_gaps, least_bars):
                check_raises(self, InvalidBook, wrong, call, wrong, wrong)
        for wrong in WRONG + ([0], (True,), (0,) * 33):
            for call in (least_gaps, least_bars):
                check_raises(self, InvalidMemory, wrong, call, CROSSED, wrong)
        self.assertEqual(least_gaps(book=HANDED, memory=(0, 0)), ((2,), ()))
        self.assertEqual(least_bars(book=HANDED, memory=(0, 0)), (((), ()), ((2,), ())))


class ForAll(unittest.TestCase):
    def short_books(self, seed, many, most=200):
        draw = Draw(seed)
        while many:
            book = passing_book(draw) if draw.below(3) else a_book(draw) if draw.below(2) else drawn_book(draw, 2, 5, STRAIGHT_NAMES)
            cells = 1 + draw.below(3)
            if is_short(book) and len(all_choices(events(book, (0,) * cells), (0,) * cells)) <= most:
                many -= 1
                yield draw, book, cells

    def test_against_all_choices(self):
        answers = [0, 0]
        for draw, book, cells in self.short_books(266, 120):
            bad = bad_ones(book, (0,) * cells)
            answers[not bad] += 1
            check_boolean(self, not bad, plain_for_all(book, cells))
            self.assertTrue(same(bad_sorted_choice(book, cells), bad[0] if bad else None))
            if not bad:
                memory = tuple(draw.word() for _ in range(cells))
                if all_stands(book, memory, most=1000) is not None:
                    self.assertEqual(sorted_ends(book, memory), ends(book, memory))
        self.assertGreater(min(answers), 10)

    def test_least_against_all_places(self):
        needed = {}
        for draw, book, cells in self.short_books(267, 300, 60):
            found = least_gaps_for_all(book, cells)
            many = sum(map(len, found))
            needed[many] = needed.get(many, 0) + 1
            if needed[many] > 12 or sum(map(len, book)) > 7:
                continue
            first = next(places for places in all_places(book) if not bad_ones(
                with_bars(book, no_bars(book), places), (0,) * cells))
            self.assertTrue(same(found, first), (book, cells, found, first))
            check_boolean(self, True, plain_for_all(gapped(book, found), cells))
        self.assertTrue({0, 1} <= set(needed), needed)
        writer = (("store", 1, 7, 0), ("store", 1, 7, 1), ("store", 1, 7, 2))
        reader = (("load", 2, 7, 2), ("load", 3, 7, 1), ("load", 4, 7, 0))
        self.assertEqual(least_gaps_for_all((writer, reader), 3), ((1, 2), ()))
        self.assertEqual(least_gaps_for_all((writer, reader), 1), ((), ()))
        self.assertEqual(least_gaps_for_all((writer[:1] + (("load", 2, 7, 0),) + writer[1:], reader), 3), ((1, 3), ()))

    def test_errors_in_their_sequence(self):
        check_errors_for_all(self, (plain_for_all, bad_sorted_choice, least_gaps_for_all))

    def test_names(self):
        check_boolean(self, False, plain_for_all(book=HANDED, cells=2))
        check_boolean(self, True, plain_for_all(book=HANDED, cells=1))
        self.assertEqual(bad_sorted_choice(book=HANDED, cells=2), (((2, 1), (3, -1)), ((0,), (1,))))
        self.assertEqual(bad_sorted_choice(HANDED, 32), (((2, 1), (3, -1)), ((0,), (1,)) + ((),) * 30))
        self.assertEqual(least_gaps_for_all(book=HANDED, cells=2), ((2,), ()))


if __name__ == "__main__":
    unittest.main()
