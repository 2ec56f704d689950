import unittest

from touchroad.errors import InvalidBook, InvalidMemory, InvalidNumber, NotLet
from touchroad.plain import (has_ended, has_stopped, one_row_run, plain_after, plain_first, plain_run, plain_steps)
from tests.helpers import WRONG, Draw, Odd, check_boolean, check_examples, check_raises, drawn_book, same, variants
from tests.reference import Plain

EXAMPLES = """
>>> from touchroad.plain import has_ended, one_row_run, plain_first, plain_run, plain_steps
>>> one, other = (("set", 0, 1), ("store", 0, 7, 0), ("load", 1, 7, 1)), (("set", 0, 1), ("store", 0, 7, 1), ("load", 1, 7, 0))
>>> late = plain_run((one, other), (0, 0), [("do", 0), ("do", 0), ("do", 1), ("do", 1), ("do", 0), ("do", 1)])
>>> [late[0][0], late[1], plain_steps((one, other), late), has_ended((one, other), late)]
[(3, (1, 0, 0, 0, 0, 0, 0, 0), ((0, 1),)), (0, 0), [('flush', 0), ('flush', 1)], False]
>>> one_row_run((one, other), (0, 0), [0, 0, 0, 1, 1, 1])[0][1]
(3, (1, 1, 0, 0, 0, 0, 0, 0), ())
"""

DO, FLUSH = ("do", 0), ("flush", 0)
ZEROS = (0,) * 8


def ran(rows, memory, steps):
    return plain_run((tuple(rows),), memory, steps)


class Steps(unittest.TestCase):
    def test_examples(self):
        check_examples(self, EXAMPLES)

    def test_first(self):
        self.assertTrue(same(plain_first(((), (("gap",),)), (5, 6)), (((0, ZEROS, ()), (0, ZEROS, ())), (5, 6))))

    def test_each_instruction_alone(self):
        def registers(*rows):
            return ran(rows, (10, 65535), [DO] * len(rows))[0][0][1]
        first = (("set", 1, 65535), ("set", 2, 2))
        self.assertEqual(registers(*first)[1:3], (65535, 2))
        for name, word in (("add", 1), ("sub", 65533), ("and", 2), ("xor", 65533), ("below", 0)):
            self.assertEqual(registers(*first, (name, 3, 1, 2))[3], word)
        self.assertEqual(registers(*first, ("below", 3, 2, 1))[3], 1)
        self.assertEqual(registers(*first, ("sub", 1, 2, 1))[1], 3)
        self.assertEqual(registers(*first, ("add", 2, 2, 2))[2], 4)
        self.assertEqual(registers(*first, ("load", 4, 2, 65535))[4], 65535)
        self.assertEqual(registers(*first, ("load", 4, 1, 65535))[4], 10)
        stand = ran(first + (("swap", 1, 1, 0, 0),), (10, 3), [DO] * 3)
        self.assertEqual((stand[0][0][1][1], stand[1]), (10, (65535, 3)))
        stand = ran(first + (("addto", 2, 2, 1, 0),), (10, 65535), [DO] * 3)
        self.assertEqual((stand[0][0][1][2], stand[1]), (65535, (10, 1)))
        stand = ran(first + (("addto", 3, 3, 3, 1),), (10, 4), [DO] * 3)
        self.assertEqual((stand[0][0][1][3], stand[1]), (4, (10, 4)))
        for row in (("fence",), ("gap",)):
            self.assertEqual(ran((row,), (1,), [DO]), (((1, ZEROS, ()),), (1,)))
        self.assertEqual(ran((("ifzero", 0, 2), ("gap",)), (1,), [DO])[0][0][0], 2)
        self.assertEqual(ran((("set", 0, 1), ("ifzero", 0, 0)), (1,), [DO, DO])[0][0][0], 2)
        self.assertEqual(ran((("jump", 0),), (1,), [DO] * 7)[0][0][0], 0)

    def test_cells_of_all_sizes(self):
        for cells in range(1, 33):
            memory = tuple(range(100, 100 + cells))
            stand = ran((("set", 1, 65535), ("load", 2, 1, 65535)), memory, [DO, DO])
            self.assertEqual(stand[0][0][1][2], 100 + (2 * 65535) % cells)

    def test_loads_of_late_stores(self):
        rows = (("set", 1, 7), ("store", 1, 0, 0), ("set", 1, 8), ("store", 1, 0, 0), ("store", 0, 0, 1), ("load", 2, 0, 0))
        stand = ran(rows, (5, 6), [DO] * 6)
        self.assertEqual(stand[0][0], (6, (0, 8, 8, 0, 0, 0, 0, 0), ((0, 7), (0, 8), (1, 0))))
        self.assertEqual(stand[1], (5, 6))
        book = (rows, (("load", 2, 0, 0),))
        other = plain_run(book, (5, 6), [DO] * 4 + [("do", 1)])
        self.assertEqual(other[0][1][1][2], 5)
        other = plain_run(book, (5, 6), [DO] * 4 + [FLUSH, ("do", 1)])
        self.assertEqual((other[0][1][1][2], other[0][0][2], other[1]), (7, ((0, 8),), (7, 6)))

    def test_waiting_for_late_stores(self):
        for row in (("fence",), ("swap", 2, 0, 0, 0), ("addto", 2, 0, 0, 0)):
            rows = (("store", 0, 0, 1), row)
            stand = ran(rows, (5, 6), [DO])
            self.assertEqual(plain_steps((rows,), stand), [FLUSH])
            check_raises(self, NotLet, DO, plain_after, (rows,), stand, DO)
            self.assertEqual(plain_steps((rows,), plain_after((rows,), stand, FLUSH)), [DO])
        rows = (("store", 0, 0, 1), ("gap",), ("load", 1, 0, 0), ("store", 1, 0, 0), ("jump", 5), ("stop",))
        stand = ran(rows, (5, 6), [DO] * 5)
        self.assertEqual(stand[0][0][2], ((1, 0), (0, 5)))
        self.assertEqual(plain_steps((rows,), stand), [FLUSH])

    def test_another_cores_late_stores_do_not_matter(self):
        book = ((("store", 0, 0, 0),), (("fence",), ("swap", 1, 0, 0, 0)))
        stand = plain_run(book, (9,), [("do", 0), ("do", 1), ("do", 1)])
        self.assertEqual((stand[0][1][1][1], stand[1], plain_steps(book, stand)), (9, (0,), [FLUSH]))

    def test_stops(self):
        book = ((("stop",), ("gap",)), (), (("jump", 1), ("stop",)), (("store", 0, 0, 0),))
        stand = plain_first(book, (3,))
        self.assertEqual(plain_steps(book, stand), [("do", 2), ("do", 3)])
        self.assertEqual([has_stopped(book, stand, core) for core in range(4)], [True, True, False, False])
        stand = plain_run(book, (3,), [("do", 2), ("do", 3)])
        self.assertEqual([has_stopped(book, stand, core) for core in range(4)], [True] * 4)
        self.assertIs(has_ended(book, stand), False)
        self.assertIs(has_ended(book, plain_after(book, stand, ("flush", 3))), True)
        for core in (-1, 4, 10 ** 30):
            check_raises(self, InvalidNumber, core, has_stopped, book, stand, core)

    def test_steps_that_are_not_let(self):
        book = ((("gap",),), (("stop",),))
        stand = plain_first(book, (0,))
        for step in WRONG + (("do", 1), ("flush", 0), ("do", 2), ("do", -1), ("do", False), ("do", None), ("do",),
                             ("do", 0, 0), ["do", 0], ("Do", 0), ("flush", 5), (DO,), ("do", "0"), (Odd(), 0),
                             ("do", Odd()), 0, ("stop", 0), ("do", (0,))):
            check_raises(self, NotLet, step, plain_after, book, stand, step)
            check_raises(self, NotLet, step, plain_run, book, (0,), [DO, step] if step != DO else [step])
        check_raises(self, NotLet, DO, plain_run, book, (0,), [DO, DO])
        both, late = ((("gap",),), (("store", 0, 0, 0), ("gap",))), ("do", 1)
        for step in (("do", -1), ("flush", -1), ("do", -2), ("do", 2), (Odd(), 1), ("do", 1, 1), ("do", True)):
            check_raises(self, NotLet, step, plain_run, both, (0,), [late, step])
        for step in variants(DO):
            if type(step) is tuple and same(step, DO):
                continue
            check_raises(self, NotLet, step, plain_after, book, stand, step)

    def test_the_first_that_is_not_let(self):
        book = ((("gap",), ("gap",)),)
        check_raises(self, NotLet, None, plain_run, book, (0,), [DO, None, ("flush", 0), DO])
        check_raises(self, NotLet, ("do", True), plain_run, book, (0,), [("do", True), None])

    def test_against_the_reference(self):
        draw = Draw(2)
        for _ in range(150):
            book = drawn_book(draw, 1 + draw.below(4), 9)
            memory = tuple(draw.word() for _ in range(1 + draw.below(5)))
            other, stand, steps = Plain(book, memory), plain_first(book, memory), []
            for _ in range(40):
                let = other.steps()
                self.assertTrue(same(plain_steps(book, stand), let))
                for core in range(len(book)):
                    check_boolean(self, other.stopped(core), has_stopped(book, stand, core))
                    for step in (("do", core), ("flush", core)):
                        if step not in let:
                            check_raises(self, NotLet, step, plain_after, book, stand, step)
                check_boolean(self, other.ended(), has_ended(book, stand))
                if not let:
                    break
                step = draw.one_of(let)
                other.go(step)
                steps.append(step)
                stand = plain_after(book, stand, step)
                self.assertTrue(same(stand, other.stand()))
            self.assertTrue(same(plain_run(book, memory, steps), stand))
            self.assertTrue(same(plain_run(book=book, memory=memory, steps=[]), plain_first(book, memory)))

    def test_some_thousand_steps(self):
        rows = (("addto", 1, 2, 0, 0), ("set", 2, 1), ("store", 1, 0, 1), ("load", 3, 0, 1), ("jump", 0))
        round_ = [DO] * 5 + [FLUSH]
        stand = ran(rows, (0, 0), round_ * 3000)
        self.assertEqual(stand, (((0, (0, 2998, 1, 2998, 0, 0, 0, 0), ()),), (2999, 2998)))

    def test_wrong_books_and_memories(self):
        good, stand = ((("gap",),),), plain_first(((("gap",),),), (0,))
        for value in WRONG:
            check_raises(self, InvalidBook, value, plain_first, value, (0,))
            check_raises(self, InvalidMemory, value, plain_first, good, value)
            check_raises(self, InvalidBook, value, plain_steps, value, stand)
            check_raises(self, InvalidBook, value, plain_after, value, stand, DO)
            check_raises(self, InvalidBook, value, plain_run, value, value, [DO])
            check_raises(self, InvalidMemory, value, plain_run, good, value, [None])
            check_raises(self, InvalidBook, value, has_stopped, value, stand, 9)
            check_raises(self, InvalidBook, value, has_ended, value, stand)
            check_raises(self, InvalidBook, value, one_row_run, value, value, [0])
            check_raises(self, InvalidMemory, value, one_row_run, good, value, [None])


class OneRow(unittest.TestCase):
    def test_stores_are_written_at_once(self):
        rows = (("set", 1, 7), ("store", 1, 0, 0), ("fence",), ("swap", 2, 1, 0, 0), ("store", 0, 0, 1), ("addto", 3, 1, 0, 1))
        stand = one_row_run((rows,), (1, 2), [0] * 6)
        self.assertTrue(same(stand, (((6, (0, 7, 7, 0, 0, 0, 0, 0), ()),), (7, 7))))

    def test_against_the_reference(self):
        draw = Draw(3)
        for _ in range(150):
            book = drawn_book(draw, 1 + draw.below(4), 9)
            memory = tuple(draw.word() for _ in range(1 + draw.below(5)))
            other, cores = Plain(book, memory, late=False), []
            for _ in range(30):
                let = [core for _, core in other.steps()]
                for core in range(-1, 6):
                    if core not in let:
                        check_raises(self, NotLet, core, one_row_run, book, memory, cores + [core, 0, None])
                if not let:
                    break
                cores.append(draw.one_of(let))
                other.go(("do", cores[-1]))
            self.assertTrue(same(one_row_run(book, memory, cores), other.stand()))

    def test_what_is_no_core(self):
        book = ((("gap",),) * 3, (("gap",), ("stop",)))
        for value in (True, False, -1, 2, 10 ** 40, 2.0, "0", (0,), [0], None, Odd()):
            check_raises(self, NotLet, value, one_row_run, book, (0,), [0, value, -7])
        check_raises(self, NotLet, 1, one_row_run, book, (0,), [1, 1, 5])
        self.assertEqual(one_row_run(book=book, memory=(4,), cores=[])[1], (4,))

    def test_some_thousand_turns(self):
        book = ((("set", 1, 1), ("addto", 2, 1, 0, 0), ("jump", 1)), (("set", 1, 1), ("addto", 2, 1, 0, 0), ("jump", 1)))
        stand = one_row_run(book, (0,), [0, 1] * 10000)
        self.assertEqual(stand[1], (10000,))


if __name__ == "__main__":
    unittest.main()
