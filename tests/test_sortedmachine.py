import unittest

from touchroad.ends import ends, one_row_ends
from touchroad.errors import InvalidBook, InvalidEnd, InvalidMemory, NotLet
from touchroad.sortedmachine import (sorted_after, sorted_ended, sorted_ends, sorted_first, sorted_run, sorted_run_leads,
                                     sorted_run_to, sorted_steps)
from tests.helpers import (ALL_NAMES, LIVELY_NAMES, WRONG, Draw, check_boolean, check_examples, check_raises, drawn_book,
                           lively_book, passing_book, same, shares, variants)
from tests.reference_sorted import Sorted, sorted_stands

EXAMPLES = """
>>> from touchroad.sortedmachine import sorted_ends, sorted_run, sorted_steps
>>> pair = ((("set", 1, 5), ("store", 1, 0, 0), ("gap",), ("store", 1, 0, 1), ("store", 1, 0, 0)),)
>>> late = sorted_run(pair, (0, 0), [("do", 0)] * 5)
>>> late
(((5, (0, 5, 0, 0, 0, 0, 0, 0), ((0, 5), None, (1, 5), (0, 5))),), (0, 0))
>>> [sorted_steps(pair, late), sorted_run(pair, (0, 0), [("do", 0)] * 5 + [("flush", 0, 0)])[0][0][2], sorted_ends(pair, (0, 0))]
[[('flush', 0, 0)], ((1, 5), (0, 5)), [(((0, 5, 0, 0, 0, 0, 0, 0),), (5, 5))]]
"""

MANY_STORES = ALL_NAMES + ("store", "gap", "store", "store", "load")


def books(seed, many, most=900):
    draw = Draw(seed)
    while many:
        if draw.below(3) == 0:
            book = passing_book(draw)
        elif draw.below(2):
            book = lively_book(draw, 2, 5, ("store", "store", "load", "load", "gap") + LIVELY_NAMES)
        else:
            book = drawn_book(draw, 1 + draw.below(3), 5, MANY_STORES)
        memory = tuple(draw.word() for _ in range(1 + draw.below(3)))
        stands = sorted_stands(book, memory, most=most)
        if stands is not None and len(stands) > 6:
            many -= 1
            yield draw, book, memory, stands


def stand_of(rows, *steps, memory=(0, 0, 0)):
    return sorted_run((rows,), memory, list(steps))


def stores_of(rows, *steps):
    return stand_of(rows, *steps)[0][0][2]


ON = ("do", 0)


class Machine(unittest.TestCase):
    def test_examples(self):
        check_examples(self, EXAMPLES)

    def test_each_step_against_a_second_telling(self):
        marks = 0
        for draw, book, memory, stands in books(241, 90):
            self.assertTrue(same(sorted_first(book, memory), Sorted(book, memory).stand()))
            for stand, machine in list(stands.items())[:60]:
                found = sorted_steps(book, stand)
                marks += "None" in repr(stand)
                self.assertTrue(same(found, machine.steps()), (book, stand))
                check_boolean(self, machine.ended(), sorted_ended(book, stand))
                for step in found:
                    other = machine.twin()
                    other.go(step)
                    self.assertTrue(same(sorted_after(book, stand, step), other.stand()), (book, stand, step))
                    sorted_steps(book, stand).clear()
                self.assertTrue(same(sorted_steps(book, stand), found))
        self.assertGreater(marks, 100)

    def test_what_is_not_let(self):
        for draw, book, memory, stands in books(242, 12, 150):
            for stand, machine in list(stands.items())[:25]:
                let = machine.steps()
                all_steps = [("do", c) for c in range(5)] + [("flush", c, k) for c in range(4) for k in range(4)] + [
                    ("flush", c) for c in range(4)]
                tried = all_steps + list(WRONG) + [v for s in let[:2] for v in variants(s)]
                for step in tried + [("do", 0, 0), ("flush", 0, True), ("flush", False, 0), ("do", True), ("flush", 0, -1)]:
                    if not any(same(step, other) for other in let):
                        check_raises(self, NotLet, step, sorted_after, book, stand, step)

    def test_marks(self):
        def at(cell):
            return ("store", 1, 0, cell)
        gap, fence = ("gap",), ("fence",)
        self.assertEqual(stores_of((gap,), ON), ())
        self.assertEqual(stores_of((at(0), gap), ON, ON), ((0, 0), None))
        self.assertEqual(stores_of((at(0), gap, gap), ON, ON, ON), ((0, 0), None))
        self.assertEqual(stores_of((at(0), gap, at(1), gap), ON, ON, ON, ON), ((0, 0), None, (1, 0), None))
        self.assertEqual(stores_of((at(0), gap), ON, ON, ("flush", 0, 0)), ())
        self.assertEqual(stores_of((at(0), at(1), gap, at(2)), ON, ON, ON, ON, ("flush", 0, 1)), ((0, 0), None, (2, 0)))
        rows = (at(0), gap, at(1), gap, at(2))
        self.assertEqual(stores_of(rows, ON, ON, ON, ON, ON, ("flush", 0, 0)), ((1, 0), None, (2, 0)))
        self.assertEqual(stores_of(rows, ON, ON, ON, ON, ("flush", 0, 0), ("flush", 0, 1)), ())
        with_all = stand_of(rows, ON, ON, ON, ON, ON)
        self.assertEqual(sorted_steps((rows,), with_all), [("flush", 0, 0)])
        for cell in (1, 2):
            check_raises(self, NotLet, ("flush", 0, cell), sorted_after, (rows,), with_all, ("flush", 0, cell))
        # The first late store of a cell counts, not a later one.
        rows = (at(1), at(0), gap, at(1), at(2))
        self.assertEqual(sorted_steps((rows,), stand_of(rows, ON, ON, ON, ON, ON)), [("flush", 0, 0), ("flush", 0, 1)])
        rows = (at(2), at(1), at(2), at(0), fence)
        self.assertEqual(sorted_steps((rows,), stand_of(rows, *[ON] * 4)), [("flush", 0, 0), ("flush", 0, 1), ("flush", 0, 2)])
        self.assertEqual(stores_of(rows, *[ON] * 4, ("flush", 0, 2)), ((1, 0), (2, 0), (0, 0)))

    def test_loads_and_what_stands_alone(self):
        rows = (("set", 1, 5), ("set", 2, 6), ("store", 1, 0, 0), ("store", 2, 0, 0), ("gap",), ("load", 3, 0, 0), ("load", 4, 0, 1))
        stand = stand_of(rows, *[ON] * 7, memory=(8, 9, 10))
        self.assertEqual(stand, (((7, (0, 5, 6, 6, 9, 0, 0, 0), ((0, 5), (0, 6), None)),), (8, 9, 10)))
        self.assertEqual(sorted_run((rows,), (8, 9, 10), [ON] * 7 + [("flush", 0, 0)] * 2)[1], (6, 9, 10))
        for last in (("fence",), ("swap", 3, 1, 0, 1), ("addto", 3, 1, 0, 1)):
            rows = (("set", 1, 5), ("store", 1, 0, 0), ("gap",), last)
            stand = stand_of(rows, ON, ON, ON, memory=(0, 7, 0))
            check_raises(self, NotLet, ON, sorted_after, (rows,), stand, ON)
            check_boolean(self, False, sorted_ended((rows,), stand))
            stand = sorted_run((rows,), (0, 7, 0), [ON] * 3 + [("flush", 0, 0), ON])
            check_boolean(self, True, sorted_ended((rows,), stand))
            word = {"fence": 7, "swap": 5, "addto": 12}[last[0]]
            self.assertEqual(stand[1], (5, word, 0))

    def test_runs_are_refused_at_the_step_that_is_not_let(self):
        rows = (("store", 0, 0, 0), ("gap",), ("store", 0, 0, 1))
        good = [ON, ON, ON, ("flush", 0, 0), ("flush", 0, 1)]
        self.assertEqual(sorted_run((rows,), (5, 5), good)[1], (0, 0))
        for at in range(len(good) + 1):
            for wrong in (("flush", 0, 1), ("flush", 0), ["do", 0], ("do", 1), None, ("flush", 0, 2), ("do", -1)):
                if at == 4 and wrong == ("flush", 0, 1):
                    continue
                check_raises(self, NotLet, wrong, sorted_run, (rows,), (5, 5), good[:at] + [wrong, ("do", 9)])
        check_raises(self, NotLet, ("do", 0), sorted_run, (rows,), (5, 5), good + [("do", 0)])


class Ends(unittest.TestCase):
    def test_against_a_plain_search(self):
        more = 0
        for draw, book, memory, stands in books(243, 100):
            found = sorted({m.end() for m in stands.values() if m.ended()})
            self.assertTrue(same(sorted_ends(book, memory), found))
            plain = ends(book, memory)
            self.assertTrue(set(one_row_ends(book, memory)) <= set(plain) <= set(found))
            more += len(found) > len(plain)
            for end in found:
                run = sorted_run_to(book, memory, end)
                self.assertIs(type(run), list)
                stand = sorted_run(book, memory, run)
                self.assertTrue(sorted_ended(book, stand) and (tuple(c[1] for c in stand[0]), stand[1]) == end)
                check_boolean(self, True, sorted_run_leads(book, memory, end, run))
                self.check_changed_runs(draw, book, memory, end, run)
                other = (end[0], tuple((word + 1) % 65536 for word in end[1]))
                check_boolean(self, False, sorted_run_leads(book, memory, other, run))
                if other not in found:
                    self.assertIsNone(sorted_run_to(book, memory, other))
        self.assertGreater(more, 5)

    def check_changed_runs(self, draw, book, memory, end, run):
        at = draw.below(len(run) + 1)
        options = [("do", draw.below(3)), ("flush", draw.below(3), draw.below(3)), ("flush", 0), None, ("do", True), ["do", 0]]
        for other in [run[:at] + [step] + run[at + more:] for step in options for more in (0, 1)] + [run[:at], run[at:], run[::-1]]:
            machine = Sorted(book, memory)
            good = True
            for step in other:
                good = good and any(same(step, let) for let in machine.steps())
                if good:
                    machine.go(step)
            good = good and machine.ended() and machine.end() == end
            check_boolean(self, good, sorted_run_leads(book, memory, end, other))

    def test_other_objects_are_no_runs(self):
        book, memory = (((("store", 0, 0, 0)),),), (0,)
        end = (((0,) * 8,), (0,))
        good = [("do", 0), ("flush", 0, 0)]
        check_boolean(self, True, sorted_run_leads(book, memory, end, good))
        for wrong in WRONG + (tuple(good), [list(s) for s in good], [("do", 0), ("flush", 0)], [("do", False), ("flush", 0, 0)],
                              [("do", 0), ("flush", 0, False)]):
            check_boolean(self, False, sorted_run_leads(book, memory, end, wrong))
        check_boolean(self, True, sorted_run_leads(((),), memory, (((0,) * 8,), (0,)), []))

    def test_books_that_never_end(self):
        book = ((("jump", 0),),)
        self.assertEqual(sorted_ends(book, (0,)), [])
        self.assertIsNone(sorted_run_to(book, (0,), (((0,) * 8,), (0,))))

    def test_errors(self):
        book, memory = (((("store", 0, 0, 0)),),), (0,)
        end, stand = (((0,) * 8,), (0,)), sorted_first(book, memory)
        for wrong in WRONG + ([book[0]], (), ((),) * 5, (("store", 0, 0, 0),)):
            for call, rest in ((sorted_first, (wrong,)), (sorted_run, (wrong, [None])), (sorted_ends, (wrong,)),
                               (sorted_run_to, (wrong, wrong)), (sorted_run_leads, (wrong, wrong, wrong))):
                check_raises(self, InvalidBook, wrong, call, wrong, *rest)
            check_raises(self, InvalidBook, wrong, sorted_steps, wrong, stand)
            check_raises(self, InvalidBook, wrong, sorted_after, wrong, stand, None)
            check_raises(self, InvalidBook, wrong, sorted_ended, wrong, stand)
        for wrong in WRONG + ([0], (65536,), (True,), (0,) * 33):
            for call, rest in ((sorted_first, ()), (sorted_run, ([None],)), (sorted_ends, ()), (sorted_run_to, (wrong,)),
                               (sorted_run_leads, (wrong, wrong))):
                check_raises(self, InvalidMemory, wrong, call, book, wrong, *rest)
        for wrong in WRONG + tuple(v for v in variants(end) if not (
                type(v) is tuple and same(v, (((0,) * 8,), v[-1] if v else 0)) and v and v[1:] and type(v[1]) is tuple
                and len(v[1]) == 1 and type(v[1][0]) is int and 0 <= v[1][0] < 65536)):
            if wrong == end or self.is_end(wrong):
                continue
            check_raises(self, InvalidEnd, wrong, sorted_run_to, book, memory, wrong)
            check_raises(self, InvalidEnd, wrong, sorted_run_leads, book, memory, wrong, None)

    def is_end(self, value):
        def words(part, many):
            return type(part) is tuple and len(part) == many and all(type(w) is int and 0 <= w < 65536 for w in part)
        return (type(value) is tuple and len(value) == 2 and type(value[0]) is tuple and len(value[0]) == 1
                and words(value[0][0], 8) and words(value[1], 1))

    def test_names_and_new_lists(self):
        book, memory = ((("store", 0, 0, 0), ("load", 1, 0, 0)),), (3,)
        stand = sorted_first(book=book, memory=memory)
        stand = sorted_after(book=book, stand=stand, step=("do", 0))
        self.assertEqual(sorted_steps(book=book, stand=stand), [("do", 0), ("flush", 0, 0)])
        steps = [("do", 0), ("flush", 0, 0), ("do", 0)]
        last = sorted_run(book=book, memory=memory, steps=steps)
        self.assertEqual(steps, [("do", 0), ("flush", 0, 0), ("do", 0)])
        check_boolean(self, True, sorted_ended(book=book, stand=last))
        found = sorted_ends(book=book, memory=memory)
        run = sorted_run_to(book=book, memory=memory, end=found[0])
        check_boolean(self, True, sorted_run_leads(book=book, memory=memory, end=found[0], value=run))
        before = list(run)
        sorted_run_leads(book, memory, found[0], run + [None])
        self.assertEqual(run, before)
        run.clear()
        found.clear()
        self.assertEqual(sorted_ends(book, memory), [(((0,) * 8,), (0,))])
        self.assertEqual(len(sorted_run_to(book, memory, (((0,) * 8,), (0,)))), 3)
        self.assertFalse(shares([sorted_run_to(book, memory, (((0,) * 8,), (0,)))], [run]))


if __name__ == "__main__":
    unittest.main()
