import unittest

from touchroad.ends import ends, one_row_ends
from touchroad.errors import InvalidBook, InvalidMemory, InvalidNumber, InvalidPlaces, NotShort
from touchroad.events import events, is_short, ring
from touchroad.fences import as_one_row, bad_choice, fenced, least_fences, least_for_all, one_row_for_all
from tests.helpers import (STRAIGHT_NAMES, WRONG, Draw, check_boolean, check_examples, check_raises, drawn_book, lively_book,
                           passing_book, same)
from tests.reference import all_ends, all_stands
from tests.reference_sorted import all_places, keeps, no_bars, with_bars
from tests.test_events import all_choices, has_ring, third_or_fourth

EXAMPLES = """
>>> from touchroad.fences import as_one_row, fenced, least_fences, least_for_all, one_row_for_all
>>> crossed = ((("set", 1, 1), ("store", 1, 0, 0), ("load", 2, 0, 1)), (("set", 1, 1), ("store", 1, 0, 1), ("load", 2, 0, 0)))
>>> handed = ((("set", 1, 1), ("store", 1, 0, 0), ("store", 1, 0, 1)), (("load", 1, 0, 1), ("load", 2, 0, 0)))
>>> [as_one_row(crossed, (0, 0)), as_one_row(handed, (0, 0)), least_fences(crossed, (0, 0)), least_for_all(crossed, 2), one_row_for_all(handed, 2), as_one_row(fenced(crossed, ((2,), (2,))), (0, 0))]
[False, True, ((2,), (2,)), ((2,), (2,)), True, True]
"""

CROSSED = ((("set", 1, 1), ("store", 1, 0, 0), ("load", 2, 0, 1)), (("set", 1, 1), ("store", 1, 0, 1), ("load", 2, 0, 0)))
NO_PLACES = WRONG + ([(2,), ()], ([2], ()), ((2,), []), ((2, 1), ()), ((1, 1), ()), ((4,), ()), ((-1,), ()), ((True,), ()),
                     ((0, True), ()), ((), (False,)), ((2,),), ((2,), (), ()), (2, ()), ((2,), None), ((None,), ()), ((10 ** 30,), ()),
                     ((), (0, 3, 2)), (((2,),), ()), (("1",), ()), ((), ({2: 2},)), ({2}, ()), ({2: True}, ()))


def crossing_book(draw):
    """Cores that store and load, of which some need a fence."""
    cores = []
    for core in range(2):
        rows = []
        if draw.below(3):
            rows.append(("set", 1, core + 1))
        rows.append(("store", 1, 7, core))
        if draw.below(3) == 0:
            rows.append(draw.one_of((("gap",), ("fence",), ("swap", 3, 1, 7, draw.below(2)), ("store", 1, 7, draw.below(2)))))
        rows.append(("load", 2, 7, 1 - core if draw.below(4) else core))
        if draw.below(4) == 0:
            rows.append(("load", 3, 7, draw.below(2)))
        cores.append(tuple(rows[:5]))
    return tuple(cores)


def a_book(draw):
    kind = draw.below(4)
    if kind == 0:
        return crossing_book(draw)
    if kind == 1:
        return passing_book(draw)
    return lively_book(draw, 2, 4) if kind == 2 else lively_book(draw, 1 + draw.below(3), 3)


def stays_free_if_all_is_kept(book, found, choice):
    many = range(len(found))
    reads = dict(choice[0])
    return not has_ring([
        (i, k) for i in many for k in many if i != k and (
            keeps("one row", book, found, i, k) or third_or_fourth(found, choice, i, k)
            or (reads.get(k) == i and found[i][0] != found[k][0]))])


def bad_ones(book, memory):
    """All choices without a ring that have one if all is kept, ascending."""
    found = events(book, memory)
    return sorted(choice for choice in all_choices(found, memory)
                  if ring(book, memory, choice) is None and not stays_free_if_all_is_kept(book, found, choice))


def check_errors_for_all(case, calls):
    """The errors of functions of a short book and a number of cells, in their sequence."""
    for call in calls:
        for wrong in WRONG + (list(CROSSED), ((("jump", 2),),)):
            check_raises(case, InvalidBook, wrong, call, wrong, 0)
        for wrong in (((("jump", 0),),), ((("ifzero", 0, 1),),), ((("load", 1, 0, 0), ("load", 1, 1, 0)),)):
            check_raises(case, NotShort, wrong, call, wrong, 0)
        for wrong in (0, 33, -1, 10 ** 30):
            check_raises(case, InvalidNumber, wrong, call, CROSSED, wrong)


class Fenced(unittest.TestCase):
    def test_examples(self):
        check_examples(self, EXAMPLES)

    def test_where_each_t_leads(self):
        fence = ("fence",)
        rows = (("ifzero", 0, 2), ("jump", 3), ("ifzero", 1, 0), ("jump", 2), ("ifzero", 2, 4), ("jump", 5), ("jump", 6))
        self.assertEqual(len(rows), 7)
        for places, expected in (
                ((), rows),
                ((0,), (fence, ("ifzero", 0, 3), ("jump", 4), ("ifzero", 1, 0), ("jump", 3), ("ifzero", 2, 5), ("jump", 6), ("jump", 7))),
                ((2,), (("ifzero", 0, 2), ("jump", 4), fence, ("ifzero", 1, 0), ("jump", 2), ("ifzero", 2, 5), ("jump", 6), ("jump", 7))),
                ((7,), rows + (fence,)),
                ((2, 3), (("ifzero", 0, 2), ("jump", 4), fence, ("ifzero", 1, 0), fence, ("jump", 2), ("ifzero", 2, 6), ("jump", 7),
                          ("jump", 8)))):
            self.assertTrue(same(fenced((rows,), (places,)), (expected,)), places)
        to_end = (("jump", 2), ("ifzero", 0, 2))
        self.assertEqual(fenced((to_end,), ((2,),)), ((("jump", 2), ("ifzero", 0, 2), fence),))
        self.assertEqual(fenced((to_end,), ((1, 2),)), ((("jump", 3), fence, ("ifzero", 0, 3), fence),))
        self.assertEqual(fenced((to_end,), ((0, 1),)), ((fence, ("jump", 4), fence, ("ifzero", 0, 4)),))
        self.assertEqual(fenced(((), ()), ((), (0,))), ((), (fence,)))
        self.assertEqual(fenced(((("jump", 0),),), ((0,),)), ((fence, ("jump", 0)),))
        long_rows = (("jump", 39),) + (("gap",),) * 38
        self.assertEqual(len(fenced((long_rows,), ((39,),))[0]), 40)

    def test_against_labels(self):
        draw = Draw(221)
        for _ in range(200):
            book = drawn_book(draw, 1 + draw.below(4), 6)
            places = tuple(tuple(row for row in range(len(rows) + 1) if draw.below(3) == 0) for rows in book)
            self.assertTrue(same(fenced(book, places), with_bars(book, places, no_bars(book))))
            self.assertTrue(same(fenced(book, no_bars(book)), book))

    def test_no_places(self):
        for wrong in NO_PLACES:
            check_raises(self, InvalidPlaces, wrong, fenced, CROSSED, wrong)
        for good in (((), ()), ((0,), (3,)), ((0, 1, 2, 3), ())):
            fenced(CROSSED, good)
        check_raises(self, InvalidPlaces, ((0, 1), (1,)), fenced, ((), (("gap",),)), ((0, 1), (1,)))

    def test_errors_and_names(self):
        for wrong in WRONG + (list(CROSSED), ((("jump", 2),),)):
            check_raises(self, InvalidBook, wrong, fenced, wrong, wrong)
        self.assertEqual(fenced(book=CROSSED, places=((), ())), CROSSED)


class AsOneRow(unittest.TestCase):
    def test_against_the_ends(self):
        answers = [0, 0]
        draw = Draw(222)
        for _ in range(120):
            book = a_book(draw) if draw.below(3) else drawn_book(draw, 2, 4)
            memory = (draw.below(2), draw.below(2))
            if all_stands(book, memory, most=1500) is None:
                continue
            good = set(all_ends(book, memory)) <= set(all_ends(book, memory, late=False))
            answers[good] += 1
            check_boolean(self, good, as_one_row(book, memory))
        self.assertGreater(min(answers), 5, answers)

    def test_least_fences_against_all_places(self):
        needed = {}
        draw = Draw(223)
        while sum(needed.values()) < 45:
            book, memory = a_book(draw), (draw.below(2), draw.below(2))
            if sum(map(len, book)) > 8 or all_stands(book, memory, most=200) is None:
                continue
            goal = set(all_ends(book, memory, late=False))
            found = least_fences(book, memory)
            many = sum(map(len, found))
            if many == 0 and needed.get(0, 0) > 20:
                continue
            first = next(places for places in all_places(book) if set(
                all_ends(with_bars(book, places, no_bars(book)), memory)) <= goal)
            self.assertTrue(same(found, first), (book, memory, found, first))
            self.assertTrue(as_one_row(fenced(book, found), memory))
            needed[many] = needed.get(many, 0) + 1
        self.assertTrue({0, 1, 2} <= set(needed), needed)

    def test_books_with_loops_and_three_fences(self):
        # Each core passes a store and a load twice.
        twice = (("set", 1, 1), ("store", 1, 7, 0), ("load", 2, 7, 1), ("ifzero", 3, 6), ("stop",), ("stop",), ("set", 3, 1), ("jump", 1))
        other = (("store", 7, 7, 1), ("load", 2, 7, 0))
        for book in ((twice, other), (other, twice)):
            for memory in ((0, 0), (1, 5)):
                found = least_fences(book, memory)
                first = next(places for places in all_places(book) if sum(map(len, places)) >= sum(map(len, found)) and set(
                    all_ends(with_bars(book, places, no_bars(book)), memory)) <= set(all_ends(book, memory, late=False)))
                self.assertEqual(found, first)
        rows = tuple((("store", 6, 7, core), ("load", 2, 7, (core + 1) % 3)) for core in range(3))
        ring_of_three = tuple((("set", 6, 1),) + core for core in rows)
        self.assertEqual(least_fences(ring_of_three, (0, 0, 0)), ((2,), (2,), (2,)))
        self.assertTrue(as_one_row(ring_of_three, (1, 1, 1)))

    def test_a_book_with_as_many_rows_as_is_allowed(self):
        rows = (("set", 1, 1), ("store", 1, 0, 0), ("load", 2, 0, 1), ("gap",), ("gap",), ("gap",))
        other = (("set", 1, 1), ("store", 1, 0, 1), ("load", 2, 0, 0), ("gap",), ("gap",), ("gap",))
        self.assertEqual(least_fences((rows, other), (0, 0)), ((2,), (2,)))
        self.assertEqual(least_for_all((rows, other), 2), ((2,), (2,)))

    def test_errors_and_names(self):
        for wrong in WRONG + (list(CROSSED),):
            for call in (as_one_row, least_fences):
                check_raises(self, InvalidBook, wrong, call, wrong, wrong)
        for wrong in WRONG + ([0], (True,), (0,) * 33):
            for call in (as_one_row, least_fences):
                check_raises(self, InvalidMemory, wrong, call, CROSSED, wrong)
        check_boolean(self, False, as_one_row(book=CROSSED, memory=(0, 0)))
        self.assertEqual(least_fences(book=CROSSED, memory=(0, 0)), ((2,), (2,)))


class ForAll(unittest.TestCase):
    def books(self, seed, many, most=300):
        draw = Draw(seed)
        while many:
            book = a_book(draw) if draw.below(3) else drawn_book(draw, 2, 5, STRAIGHT_NAMES)
            cells = 1 + draw.below(3)
            if is_short(book) and len(all_choices(events(book, (0,) * cells), (0,) * cells)) <= most:
                many -= 1
                yield draw, book, cells

    def test_against_all_choices(self):
        answers = [0, 0]
        for draw, book, cells in self.books(224, 150):
            bad = bad_ones(book, (0,) * cells)
            answers[not bad] += 1
            check_boolean(self, not bad, one_row_for_all(book, cells))
            self.assertTrue(same(bad_choice(book, cells), bad[0] if bad else None))
            if not bad:
                for _ in range(3):
                    self.assertTrue(as_one_row(book, tuple(draw.word() for _ in range(cells))))
        self.assertGreater(min(answers), 10)

    def test_least_against_all_places(self):
        needed = {}
        for draw, book, cells in self.books(225, 400, 60):
            if sum(map(len, book)) > 7:
                continue
            found = least_for_all(book, cells)
            many = sum(map(len, found))
            needed[many] = needed.get(many, 0) + 1
            if needed[many] <= 12:
                first = next(places for places in all_places(book) if not bad_ones(
                    with_bars(book, places, no_bars(book)), (0,) * cells))
                self.assertTrue(same(found, first), (book, cells, found, first))
                self.assertTrue(one_row_for_all(fenced(book, found), cells))
                self.assertEqual(ends(fenced(book, found), (0,) * cells), one_row_ends(book, (0,) * cells))
        self.assertTrue({0, 1, 2} <= set(needed), needed)

    def test_fences_before_each_load_behind_a_store(self):
        """F2, for drawn books."""
        for draw, book, cells in self.books(226, 60):
            places = tuple(tuple(row for row, i in enumerate(rows) if i[0] == "load" and "store" in [j[0] for j in rows[:row]])
                           for rows in book)
            self.assertTrue(one_row_for_all(fenced(book, places), cells))
            self.assertLessEqual(sum(map(len, least_for_all(book, cells))), sum(map(len, places)))

    def test_cells_at_the_edges(self):
        self.assertEqual([least_for_all(CROSSED, cells) for cells in (1, 2, 3, 32)], [((), ()), ((2,), (2,)), ((2,), (2,)), ((2,), (2,))])
        self.assertEqual(bad_choice(CROSSED, 2), (((1, -1), (3, -1)), ((0,), (2,))))
        self.assertEqual(bad_choice(CROSSED, 32), (((1, -1), (3, -1)), ((0,), (2,)) + ((),) * 30))
        self.assertIsNone(bad_choice(CROSSED, 1))
        self.assertIsNone(bad_choice(((),), 5))
        check_boolean(self, True, one_row_for_all(((), ()), 1))

    def test_words_do_not_matter(self):
        # The words that are stored are those that are there, so no end shows the late stores.
        book = ((("store", 0, 7, 0), ("load", 2, 7, 1)), (("store", 0, 7, 1), ("load", 2, 7, 0)))
        self.assertTrue(as_one_row(book, (0, 0)))
        check_boolean(self, False, one_row_for_all(book, 2))
        self.assertEqual([least_fences(book, (0, 0)), least_for_all(book, 2)], [((), ()), ((1,), (1,))])

    def test_errors_in_their_sequence(self):
        check_errors_for_all(self, (one_row_for_all, bad_choice, least_for_all))

    def test_names(self):
        check_boolean(self, False, one_row_for_all(book=CROSSED, cells=2))
        self.assertEqual(least_for_all(book=CROSSED, cells=2), ((2,), (2,)))
        self.assertEqual(len(bad_choice(book=CROSSED, cells=2)), 2)


if __name__ == "__main__":
    unittest.main()
