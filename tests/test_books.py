import unittest

from touchroad.books import cell_of, is_book, is_instruction, is_memory, is_plan, reads, result, writes
from tests import reference
from tests.helpers import ALL_NAMES, WRONG, Draw, check_boolean, check_examples, drawn_book, variants

EXAMPLES = """
>>> from touchroad.books import cell_of, is_book, is_plan, reads, result, writes
>>> [is_book(((("set", 0, 1), ("jump", 3)),)), is_book(((("set", 0, 1), ("jump", 2)),)), is_plan((8, 4, 2, 2, 4)), is_plan((6, 4, 2, 2, 4))]
[False, True, True, False]
>>> [reads(("store", 1, 2, 0)), writes(("store", 1, 2, 0)), cell_of(8, 65535, 2), result(("sub", 0, 1, 2), (3, 5)), result(("below", 0, 1, 2), (3, 5))]
[(1, 2), None, 1, 65534, 1]
"""

GOOD = (
    ("set", 0, 65535), ("add", 1, 2, 3), ("sub", 7, 7, 7), ("and", 0, 0, 0), ("xor", 4, 5, 6), ("below", 1, 2, 3),
    ("load", 1, 7, 65535), ("store", 7, 0, 0), ("swap", 1, 2, 3, 4), ("addto", 7, 6, 5, 65535), ("fence",), ("gap",),
    ("ifzero", 7, 5), ("jump", 5), ("stop",),
)


class Values(unittest.TestCase):
    def test_examples(self):
        check_examples(self, EXAMPLES)

    def test_instructions(self):
        self.assertEqual(len(GOOD), 15)
        for value in GOOD:
            check_boolean(self, True, is_instruction(value, 5))
            check_boolean(self, value[0] not in ("ifzero", "jump"), is_instruction(value, 4))
            for other in variants(value):
                check_boolean(self, reference.is_instruction(other, 5), is_instruction(other, 5))
        self.assertIs(is_instruction(("jump", 0), 0), True)
        self.assertIs(is_instruction(value=("jump", 1), rows=0), False)
        self.assertIs(is_instruction(("fences",), 0), False)
        self.assertIs(is_instruction((["set"], 0, 1), 0), False)

    def test_one_place_wrong(self):
        for wrong in (("set", 8, 0), ("set", -1, 0), ("set", 0, 65536), ("set", 0, -1), ("set", True, 0),
                      ("set", 0, False), ["set", 0, 0], ("set", 0), ("set", 0, 0, 0), ("set", "0", 0),
                      ("set", None, 0), ("Set", 0, 0), ("jump", 6), ("jump", True), ("fence", 0), "fence", ()):
            self.assertIs(is_instruction(wrong, 5), False, wrong)

    def test_books(self):
        for many in (0, 1, 39, 40, 41):
            rows = (("gap",),) * many
            check_boolean(self, many <= 40, is_book((rows,)))
            check_boolean(self, many <= 40, is_book(((), rows)))
        for many in range(7):
            check_boolean(self, 1 <= many <= 4, is_book(((),) * many))
        self.assertIs(is_book((GOOD,)), True)
        self.assertIs(is_book([GOOD]), False)
        self.assertIs(is_book((list(GOOD),)), False)
        for other in variants((GOOD, (("jump", 1),))):
            check_boolean(self, reference.is_book(other), is_book(other))
        draw = Draw(1)
        for _ in range(20):
            book = drawn_book(draw, 1 + draw.below(4), 6, ALL_NAMES)
            self.assertIs(is_book(book), True)
            for other in variants(book):
                check_boolean(self, reference.is_book(other), is_book(other))

    def test_where_a_row_leads(self):
        self.assertIs(is_book(((("jump", 1),), (("jump", 2),))), False)
        self.assertIs(is_book(((("jump", 1),), (("jump", 1),))), True)
        self.assertIs(is_book(((("ifzero", 0, 2), ("gap",)),)), True)
        self.assertIs(is_book(((("ifzero", 0, 3), ("gap",)),)), False)

    def test_plans(self):
        for cells in range(-1, 35):
            for line in range(-1, 9):
                value = (cells, line, 1, 1, 1)
                check_boolean(self, 1 <= cells <= 32 and line in (1, 2, 4) and cells % line == 0, is_plan(value))
        for part, most in ((2, 4), (3, 4), (4, 6)):
            for number in range(-1, 9):
                value = [8, 2, 1, 1, 1]
                value[part] = number
                check_boolean(self, 1 <= number <= most, is_plan(tuple(value)))
        for good in ((1, 1, 1, 1, 1), (32, 4, 4, 4, 6), (8, 4, 2, 2, 4)):
            self.assertIs(is_plan(good), True)
            for other in variants(good):
                check_boolean(self, reference.is_plan(other), is_plan(other))

    def test_memories(self):
        for many in range(35):
            check_boolean(self, 1 <= many <= 32, is_memory((0,) * many))
        self.assertIs(is_memory((0, 65535)), True)
        for wrong in ((65536,), (-1,), (True,), [0], (0, None), ("0",), ((0,),)):
            self.assertIs(is_memory(wrong), False)
        for other in variants((0, 65535, 7)):
            check_boolean(self, reference.is_memory(other), is_memory(other))

    def test_any_objects(self):
        for value in WRONG:
            self.assertIs(is_instruction(value, 3), False)
            self.assertIs(is_book(value), False)
            self.assertIs(is_plan(value), False)
            self.assertIs(is_memory(value), False)


class Parts(unittest.TestCase):
    def test_reads_and_writes(self):
        told = {
            "set": ((), 1), "add": ((2, 3), 1), "sub": ((2, 3), 1), "and": ((2, 3), 1), "xor": ((2, 3), 1),
            "below": ((2, 3), 1), "load": ((2,), 1), "store": ((1, 2), None), "swap": ((2, 3), 1),
            "addto": ((2, 3), 1), "fence": ((), None), "gap": ((), None), "ifzero": ((1,), None),
            "jump": ((), None), "stop": ((), None),
        }
        self.assertEqual(len(told), 15)
        forms = {"set": 3, "load": 4, "store": 4, "swap": 5, "addto": 5, "fence": 1, "gap": 1, "ifzero": 3,
                 "jump": 2, "stop": 1}
        for name, (read, written) in told.items():
            instruction = (name,) + tuple(range(1, forms.get(name, 4)))
            self.assertEqual(reads(instruction), read)
            self.assertIs(type(reads(instruction)), tuple)
            self.assertEqual(writes(instruction), written)

    def test_a_register_twice(self):
        self.assertEqual(reads(("add", 1, 2, 2)), (2, 2))
        self.assertEqual(reads(("store", 3, 3, 0)), (3, 3))
        self.assertEqual(reads(("swap", 4, 4, 4, 0)), (4, 4))
        self.assertEqual(writes(("swap", 4, 4, 4, 0)), 4)
        self.assertEqual(writes(("set", 0, 5)), 0)

    def test_cells(self):
        for cells in range(1, 33):
            for base, offset in ((0, 0), (65535, 65535), (65535, 1), (40000, 40000), (1, 2), (31, 1)):
                self.assertEqual(cell_of(cells, base, offset), (base + offset) % cells)
        self.assertEqual(cell_of(cells=3, base=65535, offset=1), 65536 % 3)

    def test_results(self):
        words = (0, 1, 2, 255, 32768, 65534, 65535)
        self.assertEqual(result(("set", 3, 65535), ()), 65535)
        for one in words:
            for other in words:
                for name in ("add", "sub", "and", "xor", "below"):
                    answer = result((name, 0, 1, 2), (one, other))
                    self.assertEqual(answer, reference.summed(name, one, other))
                    self.assertIs(type(answer), int)
        self.assertEqual(result(("add", 0, 1, 2), (65535, 1)), 0)
        self.assertEqual(result(("sub", 0, 1, 2), (0, 1)), 65535)
        self.assertEqual(result(("below", 0, 1, 1), (4, 4)), 0)
        self.assertEqual(result(instruction=("xor", 0, 1, 2), words=(5, 3)), 6)


if __name__ == "__main__":
    unittest.main()
