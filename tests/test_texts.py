import unittest

from touchroad.ends import ends
from touchroad.papers import comes
from touchroad.plain import plain_first, plain_run
from touchroad.reading import read_end, read_history, read_memory, read_paper, read_program, read_program_end, read_run
from touchroad.texts import (show_end, show_history, show_memory, show_paper, show_program, show_program_end, show_run, show_stand)
from tests import reference_histories as shared
from tests import reference_programs as told
from tests.helpers import Draw, STRAIGHT_NAMES, check_examples, drawn_book, lively_book, same
from tests.reference import Plain
from tests.test_road import drawn_run

EXAMPLES = """
>>> from touchroad.texts import show_end, show_paper, show_run
>>> none = ((0, 1, 0, 0, 0, 0, 0, 0), (0, 1, 0, 0, 0, 0, 0, 0))
>>> [show_end((none, (1, 1))), show_run([("do", 0), ("flush", 1)]), show_paper(("read", 2, ((-1, ("word", 1, 1)), (1, ("ring", "behind", (0, 3))))))]
['r1=1 ; r1=1 | 1 1', 'do 0, flush 1', 'read 2(start word 1 1, 1 ring behind 0 3)']

>>> from touchroad.texts import show_history, show_program, show_program_end
>>> show_program(((("get", 1, 0, 0, "take"), ("if", 1, (), (("whole",), ("set", 2, 7)))), ()))
'get 1 0 0 take ; if 1 { } { whole ; set 2 7 } || -'
>>> [show_program_end((((0, 1, 0, 0, 0, 7),), (3,))), show_history(((0, ("put", 5), None, 0, 3), (1, ("take",), 5, 1, 2)))]
['r1=1 r5=7 | 3', '0 put 5 - 0 3 ; 1 take 5 1 2']
"""

ZEROS = (0,) * 8
LEAF = ("cell", 0)


def firsts(depth, leaf=LEAF):
    for _ in range(depth):
        leaf = ("first", 1, 2, leaf, ("word", 3, 4))
    return leaf


def reads(depth, leaf=LEAF):
    for at in range(depth):
        leaf = ("read", at, ((-1, ("ring", "own", (5, 6))), (7, leaf)))
    return leaf


def drawn_paper(draw, depth):
    kind = draw.below(5) if depth else 2 + draw.below(3)
    def number():
        return draw.one_of((0, 1, 9, 10, 99, 9999))
    if kind == 0:
        sources = [-1] + sorted({draw.below(50) for _ in range(draw.below(4))})
        return ("read", number(), tuple((source, drawn_paper(draw, depth - 1)) for source in sources))
    if kind == 1:
        return ("first", draw.below(5), 5 + draw.below(5), drawn_paper(draw, depth - 1), drawn_paper(draw, depth - 1))
    if kind == 2:
        return ("ring", draw.one_of(("behind", "own")), tuple({number(): 1, draw.below(9) + 100: 1, **{draw.below(20) + 200: 1 for _ in range(draw.below(5))}}))
    return ("word", number(), number()) if kind == 3 else ("cell", number())


class Texts(unittest.TestCase):
    def test_examples(self):
        check_examples(self, EXAMPLES)

    def test_memories(self):
        self.assertEqual(show_memory(memory=(0,)), "0")
        self.assertEqual(show_memory((65535, 0, 10)), "65535 0 10")
        self.assertEqual(show_memory((7,) * 32), "7" + " 7" * 31)

    def test_ends(self):
        self.assertEqual(show_end(end=((ZEROS,), (0,))), "- | 0")
        self.assertEqual(show_end(((tuple(range(8)), ZEROS, (65535,) + ZEROS[1:], ZEROS[1:] + (3,)), (0, 5))),
                         "r1=1 r2=2 r3=3 r4=4 r5=5 r6=6 r7=7 ; - ; r0=65535 ; r7=3 | 0 5")
        self.assertEqual(show_program_end(end=(((1, 0, 0, 0, 0, 2), (0,) * 6), (9, 8))), "r0=1 r5=2 ; - | 9 8")

    def test_runs(self):
        self.assertEqual(show_run(run=[]), "-")
        self.assertEqual(show_run([("flush", 3)]), "flush 3")
        self.assertEqual(show_run([("do", 0)] * 3 + [("flush", 2)]), "do 0, do 0, do 0, flush 2")

    def test_stands(self):
        book = ((("set", 1, 1), ("store", 1, 7, 0), ("store", 7, 7, 1)), ())
        self.assertEqual(show_stand(stand=plain_first(book, (3, 4))), "0: - < - ; 0: - < - | 3 4")
        self.assertEqual(show_stand(plain_run(book, (3, 4), [("do", 0)] * 2)), "2: r1=1 < 0=1 ; 0: - < - | 3 4")
        self.assertEqual(show_stand(plain_run(book, (3, 4), [("do", 0)] * 3)), "3: r1=1 < 0=1 1=0 ; 0: - < - | 3 4")
        self.assertEqual(show_stand(plain_run(book, (3, 4), [("do", 0)] * 3 + [("flush", 0)])), "3: r1=1 < 1=0 ; 0: - < - | 1 4")

    def test_papers(self):
        self.assertEqual(show_paper(paper=LEAF), "cell 0")
        self.assertEqual(show_paper(("ring", "own", (3, 1, 2))), "ring own 3 1 2")
        self.assertEqual(show_paper(firsts(2)), "first 1 2(first 1 2(cell 0, word 3 4), word 3 4)")
        self.assertEqual(show_paper(reads(2)), "read 1(start ring own 5 6, 7 read 0(start ring own 5 6, 7 cell 0))")
        self.assertEqual(show_paper(("read", 0, ((-1, LEAF),))), "read 0(start cell 0)")

    def test_programs(self):
        self.assertEqual(show_program(program=((),)), "-")
        self.assertEqual(show_program(((), (("whole",),), ())), "- || whole || -")
        self.assertEqual(show_program(((("again", 8, (("if", 5, (("again", 0, ()),), ()), ("whole",))), ("put", 1, 2, 65535, "give"),
                                        ("swap", 0, 1, 2, 3, "both"), ("addto", 5, 4, 3, 2, "loose"), ("await", 1, 2, 3, "take"), ("below", 1, 2, 3)),)),
                         "again 8 { if 5 { again 0 { } } { } ; whole } ; put 1 2 65535 give ; swap 0 1 2 3 both ; addto 5 4 3 2 loose"
                         " ; await 1 2 3 take ; below 1 2 3")

    def test_histories(self):
        self.assertEqual(show_history(history=()), "-")
        self.assertEqual(show_history(((3, ("get",), 0, 0, 10 ** 30),)), "3 get 0 0 1" + "0" * 30)
        self.assertEqual(show_history(((0, ("take",), None, 1, 2), (1, ("add", 65535), 0, 3, 4), (2, ("give",), None, 5, 6))),
                         "0 take - 1 2 ; 1 add 65535 0 3 4 ; 2 give - 5 6")


class WrittenAndReadBack(unittest.TestCase):
    def back(self, show, read, value):
        text = show(value)
        self.assertIs(type(text), str)
        found = read(text)
        self.assertTrue(same(found, value), text)
        self.assertEqual(show(found), text)

    def test_memories_and_ends(self):
        draw = Draw(331)
        for _ in range(150):
            cells = draw.one_of((1, 2, 5, 31, 32))
            memory = tuple(draw.word() for _ in range(cells))
            self.back(show_memory, read_memory, memory)
            for many, show, read in ((8, show_end, read_end), (6, show_program_end, read_program_end)):
                cores = tuple(tuple(draw.one_of((0, 0, draw.word())) for _ in range(many)) for _ in range(1 + draw.below(4)))
                self.back(show, read, (cores, memory))
        self.back(show_end, read_end, ((ZEROS,) * 4, (0,) * 32))
        self.back(show_end, read_end, (((65535,) * 8,), (65535,)))

    def test_ends_of_books_and_runs(self):
        draw = Draw(332)
        for _ in range(30):
            book, memory = lively_book(draw, 1 + draw.below(2), 4), (0, 3)
            for end in ends(book, memory)[:8]:
                self.back(show_end, read_end, end)
            run = drawn_run(draw, Plain(book, memory))
            if run is not None:
                self.back(show_run, read_run, run)
        self.back(show_run, read_run, [])
        self.back(show_run, read_run, [("do", 3), ("flush", 0)] * 2000)

    def test_papers(self):
        draw = Draw(333)
        for _ in range(200):
            self.back(show_paper, read_paper, drawn_paper(draw, 4))
        for paper in (firsts(60), reads(60), firsts(30, reads(30)), reads(59, firsts(1)), ("cell", 9999), ("ring", "own", tuple(range(500)))):
            self.back(show_paper, read_paper, paper)

    def test_papers_that_are_found(self):
        draw, found = Draw(334), 0
        while found < 25:
            book = drawn_book(draw, 2, 5, STRAIGHT_NAMES)
            end = (tuple(tuple(draw.below(2) for _ in range(8)) for _ in book), (0, 1))
            try:
                kind, paper = comes(book, (0, 0), end)
            except ValueError:
                continue
            if kind == "paper":
                found += 1
                self.back(show_paper, read_paper, paper)

    def test_programs(self):
        draw = Draw(335)
        for _ in range(300):
            self.back(show_program, read_program, told.drawn_program(draw, 1 + draw.below(4), 5, depth=3))
        for hand in ((), (("whole",),) * 24, (("again", 8, (("if", 0, (("if", 1, (("if", 2, (), ()),), ()),), ()),)),),
                     (("again", 1, (("again", 1, (("again", 1, (("again", 1, ()),)),)),)),)):
            self.back(show_program, read_program, (hand,) * 4)

    def test_histories(self):
        for draw, kind, history in shared.histories(336, 250, most=10):
            self.back(show_history, lambda text: read_history(kind, text), history)


if __name__ == "__main__":
    unittest.main()
