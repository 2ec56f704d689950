import unittest

from touchroad.assembler import assemble, source_of
from touchroad.errors import InvalidBook, InvalidText
from tests.helpers import WRONG, Draw, check_examples, check_raises, drawn_book

EXAMPLES = r"""
>>> from touchroad.assembler import assemble, source_of
>>> book = assemble("core\nset r0 1\nagain:\nload r1 r7 5\nifzero r1 again\ncore\nset r0 1\nstore r0 r7 5")
>>> book
((('set', 0, 1), ('load', 1, 7, 5), ('ifzero', 1, 1)), (('set', 0, 1), ('store', 0, 7, 5)))
>>> source_of(book)
'core\nset r0 1\nl1:\nload r1 r7 5\nifzero r1 l1\ncore\nset r0 1\nstore r0 r7 5'
"""


class Assemble(unittest.TestCase):
    def wrong(self, source, number):
        check_raises(self, InvalidText, number, assemble, source)

    def test_examples(self):
        check_examples(self, EXAMPLES)

    def test_each_instruction(self):
        lines = ("core", "set r0 65535", "add r1 r2 r3", "sub r4 r5 r6", "and r7 r0 r1", "xor r1 r1 r1",
                 "below r2 r3 r4", "load r1 r2 65535", "store r1 r2 0", "swap r1 r2 r3 4", "addto r4 r3 r2 1",
                 "fence", "gap", "ifzero r1 end", "jump end", "stop", "end:")
        self.assertEqual(assemble("\n".join(lines)), ((
            ("set", 0, 65535), ("add", 1, 2, 3), ("sub", 4, 5, 6), ("and", 7, 0, 1), ("xor", 1, 1, 1),
            ("below", 2, 3, 4), ("load", 1, 2, 65535), ("store", 1, 2, 0), ("swap", 1, 2, 3, 4),
            ("addto", 4, 3, 2, 1), ("fence",), ("gap",), ("ifzero", 1, 15), ("jump", 15), ("stop",)),))

    def test_names(self):
        book = assemble("core\none:\ntwo:\njump three\nthree:\njump one\nfour:\nfive:\nifzero r0 five\nsix:\ncore\nsix:")
        self.assertEqual(book, ((("jump", 1), ("jump", 0), ("ifzero", 0, 2)), ()))
        self.assertEqual(assemble("core\njump end\nend:\nstop:"), ((("jump", 1),),))

    def test_names_that_look_like_other_words(self):
        for name in ("core", "set", "r1", "r0", "jump", "stop", "l1", "a", "z9", "abcdefghijkl", "a23456789012"):
            self.assertEqual(assemble(f"core\n{name}:\njump {name}"), ((("jump", 0),),))
            self.assertEqual(assemble(f"core\nifzero r1 {name}\n{name}:"), ((("ifzero", 1, 1),),))
        for name in ("", "A", "aB", "1a", "9", "a_b", "a b", "a-b", "abcdefghijklm", " a", "a ", "a:", ":"):
            self.wrong(f"core\n{name}:", 1)
            self.wrong(f"core\njump {name}", 1)

    def test_a_name_twice(self):
        self.wrong("core\na:\ngap\na:", 3)
        self.wrong("core\na:\na:", 2)
        self.assertEqual(assemble("core\na:\ncore\na:"), ((), ()))

    def test_first_line(self):
        for source in ("", "set r0 1", "a:", "core ", " core", "Core", "\ncore", "cores"):
            self.wrong(source, 0)
        self.assertEqual(assemble("core"), ((),))

    def test_empty_lines_and_spaces(self):
        self.wrong("core\n", 1)
        self.wrong("core\n\ngap", 1)
        self.wrong("core\ngap\n", 2)
        for line in ("set  r0 1", "set r0  1", " set r0 1", "set r0 1 ", "gap ", " gap", "a: ", " a:", "core ",
                     " core", "set r0 1 2", "set r0", "set", "fence 1", "jump", "jump a a", "core a", "core:a"):
            self.wrong("core\n" + line, 1)

    def test_numbers(self):
        for text in ("00", "01", "-1", "+1", "65536", "99999", "100000", "1_0", "0x1", "", "a", "1.0", "r1",
                     "9" * 5000, "0" * 5000):
            self.wrong(f"core\nset r0 {text}", 1)
        for text in ("0", "1", "9", "10", "65535", "60000"):
            self.assertEqual(assemble(f"core\nset r0 {text}"), ((("set", 0, int(text)),),))
        for text in ("r8", "r9", "r", "r00", "r01", "0", "R0", "r-1", "r 1", "rr", "r1r", "r" + "1" * 5000):
            self.wrong(f"core\nset {text} 1", 1)

    def test_forty_instructions(self):
        self.assertEqual(assemble("core\n" + "gap\n" * 40 + "end:"), ((("gap",),) * 40,))
        self.wrong("core" + "\ngap" * 41, 41)
        self.wrong("core\na:" + "\ngap" * 41 + "\ngap", 42)
        self.assertEqual(len(assemble("core" + "\ngap" * 40 + "\ncore" + "\nstop" * 40)), 2)
        self.wrong("core\njump no" + "\ngap" * 40, 41)

    def test_four_cores(self):
        self.assertEqual(assemble("core\ncore\ncore\ncore\nstop"), ((), (), (), (("stop",),)))
        self.wrong("core\ncore\ncore\ncore\ncore", 4)
        self.wrong("core\njump no\ncore\ncore\ncore\ngap\ncore", 6)

    def test_names_that_are_not_there(self):
        self.wrong("core\njump a", 1)
        self.wrong("core\ngap\njump a\njump b\nb:", 2)
        self.wrong("core\na:\ncore\njump a", 3)
        self.wrong("core\njump a\ncore\na:", 1)
        self.wrong("core\njump a\nset r0 65536", 2)
        self.wrong("core\njump a\nb:\nb:", 3)
        self.wrong("core\nifzero r8 a", 1)
        self.wrong("core\njump b\ncore\njump a", 1)

    def test_unknown_instructions(self):
        for line in ("nop", "Set r0 1", "load r1 5", "load r1 r2", "swap r1 r2 3", "ifzero r0 1", "jump 0", "ifzero a r0"):
            self.wrong("core\n" + line, 1)

    def test_no_string(self):
        for value in WRONG + (1, ["core"], ("core", ["gap"])):
            if not isinstance(value, str):
                check_raises(self, InvalidText, value, assemble, value)


class SourceOf(unittest.TestCase):
    def test_names(self):
        self.assertEqual(source_of(((("jump", 1),), ())), "core\njump l1\nl1:\ncore")
        self.assertEqual(source_of(((),)), "core")
        self.assertEqual(source_of(((("ifzero", 3, 0), ("jump", 0), ("gap",)),)), "core\nl0:\nifzero r3 l0\njump l0\ngap")
        self.assertEqual(source_of(((("swap", 1, 2, 3, 65535),), (("stop",), ("fence",)))),
                         "core\nswap r1 r2 r3 65535\ncore\nstop\nfence")

    def test_there_and_back(self):
        draw = Draw(5)
        for _ in range(200):
            book = drawn_book(draw, 1 + draw.below(4), 12)
            source = source_of(book)
            self.assertEqual(assemble(source), book)
            self.assertEqual(source_of(assemble(source)), source)
            for rows, text in zip(book, source[4:].split("\ncore")):
                named = sorted({int(line[1:-1]) for line in text.split("\n") if line.endswith(":")})
                self.assertEqual(named, sorted({i[-1] for i in rows if i[0] in ("ifzero", "jump")}))

    def test_longest(self):
        book = ((("jump", 40),) * 40,) * 4
        self.assertEqual(assemble(source_of(book)), book)

    def test_no_book(self):
        for value in WRONG:
            check_raises(self, InvalidBook, value, source_of, value)


if __name__ == "__main__":
    unittest.main()
