import unittest

from touchroad.ends import (always, ends, late_end, never_ends, one_row_ends, one_row_run_leads, one_row_run_to,
                            run_leads, run_to)
from touchroad.errors import InvalidBook, InvalidEnd, InvalidMemory, InvalidNumber
from touchroad.fast import run_by, seen, steady
from touchroad.plain import has_ended, one_row_run, plain_run
from tests.helpers import WRONG, Draw, check_boolean, check_examples, check_raises, drawn_book, same, variants
from tests.reference import Plain, all_ends, all_stands, is_stuck_somewhere

EXAMPLES = """
>>> from touchroad.ends import always, ends, late_end, one_row_ends, run_leads, run_to
>>> crossed = ((("set", 1, 1), ("store", 1, 0, 0), ("load", 2, 0, 1)), (("set", 1, 1), ("store", 1, 0, 1), ("load", 2, 0, 0)))
>>> none = ((0, 1, 0, 0, 0, 0, 0, 0), (0, 1, 0, 0, 0, 0, 0, 0))
>>> [len(ends(crossed, (0, 0))), len(one_row_ends(crossed, (0, 0))), late_end(crossed, (0, 0)) == (none, (1, 1)), run_leads(crossed, (0, 0), (none, (1, 1)), run_to(crossed, (0, 0), (none, (1, 1)))), always(crossed, (0, 0), 0, 2)]
[4, 3, True, True, [0, 1]]
"""

CROSSED = ((("set", 1, 1), ("store", 1, 0, 0), ("load", 2, 0, 1)), (("set", 1, 1), ("store", 1, 0, 1), ("load", 2, 0, 0)))
CALLS_WITH_END = (run_to, run_leads, one_row_run_to, one_row_run_leads)


def small_books(seed, many, most=400):
    draw = Draw(seed)
    while many:
        book = drawn_book(draw, 1 + draw.below(3), 5)
        memory = tuple(draw.word() for _ in range(1 + draw.below(3)))
        stands = all_stands(book, memory, most=most)
        if stands is not None and len(stands) > 5:
            many -= 1
            yield draw, book, memory, stands


class Ends(unittest.TestCase):
    def test_examples(self):
        check_examples(self, EXAMPLES)

    def test_against_a_plain_search(self):
        for draw, book, memory, stands in small_books(41, 80):
            found = sorted({m.end() for m in stands.values() if m.ended()})
            at_once = all_ends(book, memory, late=False)
            self.assertTrue(same(ends(book, memory), found))
            self.assertTrue(same(one_row_ends(book, memory), at_once))
            self.assertLessEqual(set(at_once), set(found))
            late = [one for one in found if one not in at_once]
            self.assertTrue(same(late_end(book, memory), late[0] if late else None))
            check_boolean(self, is_stuck_somewhere(stands), never_ends(book, memory))
            for core in range(len(book)):
                for number in (0, 1, 2, 3, 7):
                    words = sorted({one[0][core][number] for one in found})
                    self.assertTrue(same(always(book, memory, core, number), words))

    def test_runs(self):
        for draw, book, memory, stands in small_books(42, 40):
            found = sorted({m.end() for m in stands.values() if m.ended()})
            at_once = all_ends(book, memory, late=False)
            for one in found[:4]:
                run = run_to(book, memory, one)
                self.assertIs(type(run), list)
                self.assertIs(run_leads(book, memory, one, run), True)
                stand = plain_run(book, memory, run)
                self.assertIs(has_ended(book, stand), True)
                self.assertEqual((tuple(core[1] for core in stand[0]), stand[1]), one)
                cores = one_row_run_to(book, memory, one)
                if one in at_once:
                    self.assertIs(one_row_run_leads(book, memory, one, cores), True)
                    stand = one_row_run(book, memory, cores)
                    self.assertEqual((tuple(core[1] for core in stand[0]), stand[1]), one)
                else:
                    self.assertIs(cores, None)
                for other in found[:4]:
                    check_boolean(self, other == one, run_leads(book, memory, other, run))
                    if cores is not None:
                        check_boolean(self, other == one, one_row_run_leads(book, memory, other, cores))
            registers, words = (found or [(((0,) * 8,) * len(book), memory)])[0]
            other = (registers, words[:-1] + (12345,))
            if other not in found:
                self.assertIs(run_to(book, memory, other), None)
                self.assertIs(one_row_run_to(book, memory, other), None)

    def test_runs_with_one_step_changed(self):
        for draw, book, memory, stands in small_books(43, 12):
            for one in all_ends(book, memory)[:2]:
                self.changed(book, memory, one, run_to(book, memory, one), run_leads, True)
            for one in all_ends(book, memory, late=False)[:2]:
                self.changed(book, memory, one, one_row_run_to(book, memory, one), one_row_run_leads, False)

    def changed(self, book, memory, one, run, leads, late):
        for other in variants(tuple(run)):
            if type(other) is tuple:
                check_boolean(self, self.really_leads(book, memory, one, other, late), leads(book, memory, one, list(other)))
            self.assertIs(leads(book, memory, one, other), type(other) is list and self.really_leads(
                book, memory, one, other, late))

    @staticmethod
    def really_leads(book, memory, one, steps, late):
        machine = Plain(book, memory, late)
        for step in steps:
            step = step if late else ("do", step)
            if not any(same(step, let) for let in machine.steps()):
                return False
            machine.go(step)
        return machine.ended() and machine.end() == one

    def test_a_run_to_another_end(self):
        first = one_row_ends(CROSSED, (0, 0))[0]
        for one in one_row_ends(CROSSED, (0, 0)):
            self.assertIs(one_row_run_leads(CROSSED, (0, 0), first, one_row_run_to(CROSSED, (0, 0), one)), one == first)
            self.assertIs(run_leads(CROSSED, (0, 0), first, run_to(CROSSED, (0, 0), one)), one == first)

    def test_late_loads(self):
        none = ((0, 1, 0, 0, 0, 0, 0, 0),) * 2
        self.assertEqual(late_end(CROSSED, (0, 0)), (none, (1, 1)))
        fenced = tuple(rows[:2] + (("fence",),) + rows[2:] for rows in CROSSED)
        self.assertIs(late_end(fenced, (0, 0)), None)
        self.assertEqual(ends(fenced, (0, 0)), one_row_ends(fenced, (0, 0)))
        self.assertIs(one_row_run_to(CROSSED, (0, 0), (none, (1, 1))), None)

    def test_books_that_never_end(self):
        loop = ((("jump", 0),),)
        self.assertEqual(ends(loop, (0,)), [])
        self.assertEqual(one_row_ends(loop, (0,)), [])
        self.assertIs(never_ends(loop, (0,)), True)
        self.assertEqual(always(loop, (0,), 0, 0), [])
        self.assertIs(late_end(loop, (0,)), None)
        waiting = ((("set", 1, 1), ("store", 1, 0, 0)), (("load", 1, 0, 0), ("ifzero", 1, 0)))
        self.assertIs(never_ends(waiting, (0,)), False)
        self.assertEqual(len(ends(waiting, (0,))), 1)
        perhaps = (waiting[0], (("load", 1, 0, 0), ("ifzero", 1, 3), ("jump", 4), ("jump", 3)))
        self.assertEqual((never_ends(perhaps, (0,)), len(ends(perhaps, (0,)))), (True, 1))
        self.assertEqual(ends(((), (("stop",),)), (7,)), [(((0,) * 8,) * 2, (7,))])
        self.assertEqual(run_to(((), ()), (7,), (((0,) * 8,) * 2, (7,))), [])
        self.assertIs(run_leads(((), ()), (7,), (((0,) * 8,) * 2, (7,)), []), True)

    def test_fast_ends_are_among_the_ends(self):
        draw = Draw(44)
        for _, book, memory, _ in small_books(45, 30):
            plan = (len(memory), 1, 1 + draw.below(4), 1 + draw.below(4), 1 + draw.below(6))
            for stand in (steady(plan, book, memory, 400)[1],
                          run_by(plan, book, memory, [draw.below(10 ** 9) for _ in range(300)])[1]):
                stand = seen(plan, stand)
                if has_ended(book, stand):
                    self.assertIn((tuple(core[1] for core in stand[0]), stand[1]), ends(book, memory))

    def test_many_stands(self):
        rows = tuple(("store", 0, 0, k) for k in range(5))
        book = (rows, rows, rows + (("load", 1, 0, 0),))
        self.assertEqual(len(ends(book, (1,) * 5)), len(all_ends(book, (1,) * 5)))


class Errors(unittest.TestCase):
    def test_sequence_of_the_parameters(self):
        one = (((0,) * 8,) * 2, (0, 0))
        for value in WRONG:
            for call in (ends, one_row_ends, late_end, never_ends):
                check_raises(self, InvalidBook, value, call, value, value)
                check_raises(self, InvalidMemory, value, call, CROSSED, value)
            check_raises(self, InvalidBook, value, always, value, value, 9, 9)
            check_raises(self, InvalidMemory, value, always, CROSSED, value, 9, 9)
            for call in CALLS_WITH_END:
                rest = (None,) if "leads" in call.__name__ else ()
                check_raises(self, InvalidBook, value, call, value, value, value, *rest)
                check_raises(self, InvalidMemory, value, call, CROSSED, value, value, *rest)
                check_raises(self, InvalidEnd, value, call, CROSSED, (0, 0), value, *rest)
            self.assertIs(run_leads(CROSSED, (0, 0), one, value), False)
            self.assertIs(one_row_run_leads(CROSSED, (0, 0), one, value), False)

    def test_cores_and_registers(self):
        for core in (-1, 2, 10 ** 30):
            check_raises(self, InvalidNumber, core, always, CROSSED, (0, 0), core, 8)
        for number in (-1, 8, 10 ** 30):
            check_raises(self, InvalidNumber, number, always, CROSSED, (0, 0), 1, number)
        self.assertEqual(always(book=CROSSED, memory=(0, 0), core=1, number=1), [1])

    def test_what_is_no_end(self):
        good = (((0,) * 8,) * 2, (0, 65535))
        self.assertIs(run_to(CROSSED, (0, 0), good), None)
        for value in variants(good):
            inside = type(value) is tuple and len(value) == 2 and all(type(part) is tuple for part in value) and (
                len(value[0]) == 2 and all(self.words(registers, 8) for registers in value[0])
                and self.words(value[1], 2))
            for call in (run_to, one_row_run_to):
                if inside:
                    self.assertIs(call(CROSSED, (0, 0), value), None)
                else:
                    check_raises(self, InvalidEnd, value, call, CROSSED, (0, 0), value)

    @staticmethod
    def words(value, many):
        return type(value) is tuple and len(value) == many and all(type(w) is int and 0 <= w < 65536 for w in value)


if __name__ == "__main__":
    unittest.main()
