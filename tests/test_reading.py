import unittest

from touchroad.errors import InvalidKind, Unreadable
from touchroad.reading import read_end, read_history, read_memory, read_paper, read_program, read_program_end, read_run
from touchroad.texts import (show_end, show_history, show_memory, show_paper, show_program, show_program_end, show_run)
from tests import reference_histories as shared
from tests import reference_programs as told
from tests.helpers import WRONG, Draw, Odd, check_raises, same
from tests.reference import is_int
from tests.test_histories import NO_KINDS
from tests.test_texts import drawn_paper, firsts, reads

READERS = (read_memory, read_end, read_run, read_paper, read_program, read_program_end)
NO_TEXTS = tuple(value for value in WRONG if type(value) is not str) + (["-"], ("-",), b"-", 0, [[1], (2,)])


def is_registers(value, many):
    return type(value) is tuple and len(value) == many and all(is_int(word, 0, 65535) for word in value)


def is_end(value, many):
    return (type(value) is tuple and len(value) == 2 and type(value[0]) is tuple and 0 < len(value[0]) < 5
            and all(is_registers(words, many) for words in value[0]) and is_registers(value[1], len(value[1])) and 0 < len(value[1]) < 33)


def changed(draw, text):
    """Texts with one thing wrong, or right by chance."""
    at = draw.below(len(text) + 1)
    yield text + " "
    yield " " + text
    yield text + "\n"
    yield text[:at] + "\n" + text[at:]
    yield text[:at] + " " + text[at:]
    yield text[:at] + text[at + 1:]
    yield text[:at] + draw.one_of("0123456789-+=;|,(){}<: abdrtw") + text[at + 1:]
    yield text[:at] + draw.one_of("0123456789-+=;|,(){}<: abdrtw") + text[at:]
    yield text + text
    for one, other in ((" ", ""), (" ", "  "), (";", ","), (",", ";"), ("|", "||"), ("||", "|"), ("(", "(("), (")", ""), ("{", ""), ("}", "}}"), ("-", "0"), ("0", "-"),
                       ("=", " "), ("r", "R"), ("do", "DO"), ("do", "to"), ("take", "Take"), ("start", "-1"), ("loose", "lose"), ("1", "+1"), ("1", "01"), ("1", "1.")):
        places = [at for at in range(len(text)) if text.startswith(one, at)]
        if places:
            at = draw.one_of(places)
            yield text[:at] + other + text[at + len(one):]


class OneThingWrong(unittest.TestCase):
    """What is read has exactly the text that was given; all else is refused."""

    def check(self, draw, text, read, show, is_good):
        for other in changed(draw, text):
            self.check_text(other, read, show, is_good)

    def check_text(self, text, read, show, is_good):
        try:
            value = read(text)
        except Unreadable as error:
            self.assertEqual(error.value, text)
            self.refused += 1
        else:
            self.assertTrue(is_good(value), text)
            self.assertEqual(show(value), text)
            self.taken += 1

    def setUp(self):
        self.refused = self.taken = 0

    def tearDown(self):
        self.assertGreater(self.refused, 300)
        self.assertGreater(self.taken, 0)

    def test_memories(self):
        draw = Draw(341)
        for _ in range(60):
            text = show_memory(tuple(draw.word() for _ in range(draw.one_of((1, 2, 32)))))
            self.check(draw, text, read_memory, show_memory, lambda value: is_registers(value, len(value)) and 0 < len(value) < 33)

    def test_ends(self):
        draw = Draw(342)
        for many, read, show in ((8, read_end, show_end), (6, read_program_end, show_program_end)):
            for _ in range(60):
                cores = tuple(tuple(draw.one_of((0, 0, draw.word())) for _ in range(many)) for _ in range(1 + draw.below(4)))
                self.check(draw, show((cores, (0, 7)[:1 + draw.below(2)])), read, show, lambda value: is_end(value, many))

    def test_runs(self):
        draw = Draw(343)
        for many in (0, 1, 2, 5, 9) * 8:
            run = [(draw.one_of(("do", "flush")), draw.below(4)) for _ in range(many)]
            self.check(draw, show_run(run), read_run, show_run, lambda value: type(value) is list and all(
                step[0] in ("do", "flush") and is_int(step[1], 0, 3) and len(step) == 2 for step in value))

    def test_papers(self):
        draw = Draw(344)
        for depth in (0, 1, 2, 3, 4) * 12:
            self.check(draw, show_paper(drawn_paper(draw, depth)), read_paper, show_paper, lambda value: type(value) is tuple)

    def test_programs(self):
        draw = Draw(345)
        for _ in range(60):
            self.check(draw, show_program(told.drawn_program(draw, 1 + draw.below(3), 4, depth=2)), read_program, show_program, told.is_program)

    def test_histories(self):
        for draw, kind, history in shared.histories(346, 60, most=4):
            self.check(draw, show_history(history), lambda text: read_history(kind, text), show_history, lambda value: shared.is_history(kind, value))


class Edges(unittest.TestCase):
    def refused(self, read, *texts):
        for text in texts:
            check_raises(self, Unreadable, text, read, text)

    def test_memories(self):
        self.assertTrue(same(read_memory(text="0"), (0,)))
        self.assertTrue(same(read_memory(" ".join(["65535"] * 32)), (65535,) * 32))
        self.refused(read_memory, "", " ", "65536", "1 65536", "00", "01", "1 02", "+1", "-1", "1  2", "1,2", "-", " ".join(["0"] * 33), "1_0", "9" * 5000, "1 x", "1\n2",
                     "1 2\n", "1\t2", "0x1", "1.0")

    def test_ends(self):
        self.assertTrue(same(read_end(text="- | 0"), (((0,) * 8,), (0,))))
        self.assertTrue(same(read_end("r7=1 ; - ; - ; r0=2 | 1 2"), (((0,) * 7 + (1,), (0,) * 8, (0,) * 8, (2,) + (0,) * 7), (1, 2))))
        self.assertTrue(same(read_program_end(text="r5=1 ; - | 9"), (((0,) * 5 + (1,), (0,) * 6), (9,))))
        for read in (read_end, read_program_end):
            self.refused(read, "", "-", "| 0", " | 0", "- |", "- | ", "- | -", "- | 0 | 0", "-|0", "- ; | 0", " ; - | 0", "- ;- | 0", "- ; - ; - ; - ; - | 0", "r1=0 | 0",
                         "r1=01 | 0", "r2=1 r1=1 | 0", "r1=1 r1=1 | 0", "r1=1 r1=2 | 0", "r8=1 | 0", "r1=65536 | 0", "r1 =1 | 0", "r1 | 0", "r1= | 0", "=1 | 0", "1=1 | 0",
                         "r01=1 | 0", "R1=1 | 0", "- r1=1 | 0", "r1=1 - | 0", "r1=1  r2=1 | 0", "r1=1=1 | 0", "v1=1 | 0", "- | 65536", "- | " + " ".join(["0"] * 33),
                         "r1=1 ; - | 0 ; 0", "-; - | 0", "- | 0\n", "r-1=1 | 0", "r1=-1 | 0")
        self.refused(read_program_end, "r6=1 | 0", "r7=1 | 0")
        self.assertEqual(read_end("r6=1 | 0")[0][0][6], 1)

    def test_runs(self):
        self.assertTrue(same(read_run(text="-"), []))
        self.assertTrue(same(read_run("do 3, flush 0"), [("do", 3), ("flush", 0)]))
        self.assertIsNot(read_run("do 0"), read_run("do 0"))
        self.refused(read_run, "", "do", "do 4", "do -1", "do 00", "do  0", "do 0,", "do 0 , do 1", "do 0,do 1", "do 0,  do 1", "do 0, -", "-, do 0", "flush 0 0", "Do 0", "run 0 0",
                     "do 0\n", "do 0; do 1", "do x", "do 10", "--", ", ", "do 0, ")

    def test_papers(self):
        self.assertTrue(same(read_paper(text="cell 9999"), ("cell", 9999)))
        self.assertTrue(same(read_paper("read 0(start cell 0)"), ("read", 0, ((-1, ("cell", 0)),))))
        self.assertEqual(read_paper("read 9999(start word 9999 9999, 9999 ring own 9999 0)")[2][1], (9999, ("ring", "own", (9999, 0))))
        self.refused(read_paper, "word 10000 0", "word 0 10000", "first 10000 1(cell 0, cell 0)", "first 1 10000(cell 0, cell 0)", "ring own 10000 1", "ring own 1 10000",
                     "ring own 1 2 10000")
        self.refused(read_paper, "", "cell", "cell 10000", "cell 01", "cell -1", "cell 0 0", "word 0", "word 0 0 0", "ring own 1", "ring own", "ring own 1 1", "ring other 1 2",
                     "ring behind 1 2 ", "ring  behind 1 2", "ring behind 1, 2", "ring 1 2", "first 1 1(cell 0, cell 0)", "first 1 2(cell 0)", "first 1 2(cell 0, cell 0, cell 0)",
                     "first 1 2 (cell 0, cell 0)", "first 1 2(cell 0,cell 0)", "first 1 2(cell 0, cell 0", "first 1 2 cell 0, cell 0", "first 1 2((cell 0, cell 0))",
                     "read 0()", "read 0(cell 0)", "read 0(start cell 0,)", "read 0(start cell 0, start cell 0)", "read 0(0 cell 0)", "read 0(start cell 0, 1 cell 0, 1 cell 0)",
                     "read 0(start cell 0, 2 cell 0, 1 cell 0)", "read 0(-1 cell 0)", "read 0(start cell 0, 10000 cell 0)", "read 0 (start cell 0)", "read 0( start cell 0)",
                     "read 10000(start cell 0)", "read 0(start cell 0) ", "read 0(start cell 0))", "(cell 0)", "cell 0\n", "start cell 0", "Cell 0", "cell 0, cell 0", "paths",
                     "cell 0)", "cell 0(", "between 0 1", "read 0(start)", "read 0(start start cell 0)", "read (start cell 0)", "word 0 start", ",", "(")

    def test_sixty_brackets(self):
        for paper in (firsts(60), reads(60), reads(20, firsts(40)), firsts(20, reads(40))):
            self.assertTrue(same(read_paper(show_paper(paper)), paper))
        for paper in (firsts(61), reads(61), reads(20, firsts(41)), reads(1, firsts(60)), firsts(95)):
            self.refused(read_paper, show_paper(paper))
        self.refused(read_paper, "first 1 2(" * 5000, "(" * 20000, "read 0(start " * 5000 + "cell 0" + ")" * 5000)
        # Brackets that are open one after the other do not add up.
        wide = ("read", 0, tuple((source, firsts(59)) for source in range(-1, 5)))
        self.assertTrue(same(read_paper(show_paper(wide)), wide))

    def test_programs(self):
        self.assertTrue(same(read_program(text="- || -"), ((), ())))
        self.assertTrue(same(read_program("again 0 { } || whole ; whole"), ((("again", 0, ()),), (("whole",), ("whole",)))))
        self.refused(read_program, "", " || ", "- ||", "|| -", "- || - || - || - || -", "- ; -", "whole ;", "; whole", "whole;whole", "whole ;  whole", "whole  ; whole", "Whole",
                     "whole loose", "set 1", "set 1 2 3", "set 6 0", "set 0 65536", "set 00 1", "set 1 01", "set 1 +1", "set -1 0", "get 0 1 2", "get 0 1 2 give", "put 0 1 2 take",
                     "await 0 1 2 both", "swap 0 1 2 3 none", "get 0 1 loose 2", "if 1 { }", "if 1 { } { } { }", "if 1 {} { }", "if 1 { { } }", "if { } { }", "if 6 { } { }",
                     "if 1 {  } { }", "if 1 { whole } { whole", "if 1 { whole } whole }", "if 1 { ; } { }", "if 1 { whole ; } { }", "if 1 { - } { }", "again 9 { }", "again 1", "again 1 { } { }",
                     "again { }", "again 1 { whole", "again 1 whole", "again 1 { whole } }", "{ whole }", "branch 1", "load 0 1 2", "fence", "whole\n", "whole ||  whole", "whole | whole",
                     " ; ".join(["whole"] * 25), "set 1 " + "9" * 31, "set 1 " + "9" * 5000, "again 1 { whole || whole }")

    def test_four_braces_and_one_more(self):
        for many in (1, 2, 3, 4):
            self.assertTrue(told.is_program(read_program("again 1 { " * many + "} " * (many - 1) + "}")))
            self.assertTrue(told.is_program(read_program("if 1 { } { " * many + "} " * (many - 1) + "}")))
        for many in (5, 6, 60, 5000):
            self.refused(read_program, "again 1 { " * many + "} " * (many - 1) + "}", "if 1 { " * many + "} { } " * (many - 1) + "} { }", "again 1 { " * many, "if 1 { } { " * many + "} " * (many - 1) + "}")
        self.refused(read_program, "again 1 { " * 4 + "whole " + "} " * 3 + "}")
        self.assertEqual(read_program("again 1 { " * 3 + "whole " + "} " * 2 + "}"), ((("again", 1, (("again", 1, (("again", 1, (("whole",),)),)),)),),))

    def test_histories(self):
        self.assertTrue(same(read_history(kind="lock", text="-"), ()))
        self.assertTrue(same(read_history("queue", "0 take - 0 1" + "0" * 30), ((0, ("take",), None, 0, 10 ** 30),)))
        self.assertEqual(read_history("counter", "3 add 65535 0 1 2"), ((3, ("add", 65535), 0, 1, 2),))
        for text in ("", "0 take - 0", "0 take - 0 1 2", "0 take 0 1", "0 take - 0 1 ;", "0 take - 0 1 ; -", "- ; 0 take - 0 1", "0 take  - 0 1", "0 take - 00 1", "0 take - 0 +1", "4 take - 0 1",
                     "0 take - 1 1", "0 take - 0 2 ; 0 take - 1 2", "0 take - 2 3 ; 0 take - 0 1", "0 take - 0 1;0 take - 2 3", "0 Take - 0 1", "0 take None 0 1", "0 take 65536 0 1",
                     "0 put - 0 1", "0 put 65536 - 0 1", "0 put 1 1 0 1", "0 get 1 0 1", "0 add 1 1 0 1", "0 give - 0 1", "0 take - 0 2" + "0" * 30, "0 take - 0 1" + "0" * 31,
                     "take - 0 1", "0 - - 0 1", "0 take -1 0 1", "0 take - 0 1\n", "0 take - - 1", "-1 take - 0 1", "0 take - 0 " + "9" * 5000,
                     " ; ".join(f"0 take - {2 * n} {2 * n + 1}" for n in range(11))):
            check_raises(self, Unreadable, text, read_history, "queue", text)
        self.assertEqual(len(read_history("queue", " ; ".join(f"0 take - {2 * n} {2 * n + 1}" for n in range(10)))), 10)
        # What a kind does not know is refused, and what it knows is read.
        for kind, text in (("register", "0 get 1 0 1"), ("counter", "0 add 1 1 0 1"), ("lock", "0 give - 0 1"), ("stack", "0 put 1 - 0 1")):
            self.assertEqual(len(read_history(kind, text)), 1)
            for other in shared.KINDS:
                if text.split()[1] not in shared.OPERATIONS[other]:
                    check_raises(self, Unreadable, text, read_history, other, text)

    def test_objects_that_are_no_text(self):
        for wrong in NO_TEXTS:
            for read in READERS:
                check_raises(self, Unreadable, wrong, read, wrong)
            check_raises(self, Unreadable, wrong, read_history, "queue", wrong)
        for read in READERS:
            for text in ("a text", "\n", "None", "()", "[]"):
                check_raises(self, Unreadable, text, read, text)

    def test_objects_that_are_no_kind(self):
        for wrong in NO_KINDS:
            for text in ("-", "x", None, 5, Odd()):
                check_raises(self, InvalidKind, wrong, read_history, wrong, text)


if __name__ == "__main__":
    unittest.main()
