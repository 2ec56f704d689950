import unittest

from touchroad.errors import InvalidBook, InvalidMemory, InvalidNumber, InvalidPlan, NotLet, Nothing
from touchroad.fast import after, bridge, deeds, first, seen
from touchroad.live import Live
from tests.helpers import WRONG, Draw, Odd, check_boolean, check_examples, check_raises, drawn_book, lively_book, same, variants
from tests.reference_fast import Fast
from tests.test_fast import PLANS

EXAMPLES = """
>>> from touchroad.live import Live
>>> live = Live((2, 1, 2, 2, 4), ((("set", 1, 7), ("store", 1, 0, 0)),), (0, 0))
>>> [live.go(0, 3), live.deed(("retire", 0)), live.deed(("retire", 0)), live.held(0, 1), live.now(0)]
[3, ('do', 0), ('do', 0), 7, 0]
>>> [live.deed(deed) for deed in [("ask", 0, 0, "own"), ("out", 0), ("in", 0), ("flush", 0)]]
[None, None, None, ('flush', 0)]
>>> [live.now(0), live.watch(0), live.steps(), len(live), live.back(), live.now(0), live.taken_back()]
[7, [(8, 7)], [('do', 0), ('do', 0), ('flush', 0)], 9, ('flush', 0), 0, 0]
>>> other = Live((2, 1, 2, 2, 4), ((("load", 1, 0, 0),),), (5, 0))
>>> [other.deed(deed) for deed in [("fetch", 0), ("ask", 0, 0, "read"), ("out", 0), ("in", 0), ("run", 0, 0), ("drop", 0, 0)]]
[None, None, None, None, None, None]
>>> [other.taken_back(), other.stand[0][0][3:6], other.deeds()[0]]
[1, (0, 1, ()), ('fetch', 0)]
"""

PLAN, BOOK, MEMORY = (2, 1, 2, 2, 4), ((("set", 1, 7), ("store", 1, 0, 0), ("load", 2, 0, 0)), (("load", 2, 0, 0),)), (3, 0)


class Told(Fast):
    """A fast machine that counts the done loads that are struck, and keeps its steps and the memories that were seen."""

    def __init__(self, plan, book, memory):
        super().__init__(plan, book, memory)
        self.count, self.steps, self.history = 0, [], [self.net.memory()]

    def strike(self, c, at):
        self.count += sum(self.ins(c, e)[0] == "load" and e["word"] is not None for e in self.cores[c]["window"][at:])
        super().strike(c, at)

    def go(self, deed):
        super().go(deed)
        if deed[0] in ("retire", "flush"):
            self.steps.append(("do" if deed[0] == "retire" else "flush", deed[1]))
        self.history.append(self.net.memory())


def told_after(plan, book, memory, story):
    machine = Told(plan, book, memory)
    for deed in story:
        machine.go(deed)
    return machine


def lives(seed, many, most=120):
    """Live machines behind drawn deeds, some of them taken back, with their stories."""
    draw = Draw(seed)
    for number in range(many):
        plan = draw.one_of(PLANS)
        book = (lively_book if number % 2 else drawn_book)(draw, 1 + draw.below(3), 9)
        memory = tuple(draw.word() for _ in range(plan[0]))
        live, story = Live(plan, book, memory), []
        while len(story) < most:
            let = live.deeds()
            own = [deed for deed in let if deed[0] in ("run", "retire", "flush")] or let
            deed = draw.one_of(own if draw.below(3) == 0 else let)
            live.deed(deed)
            story.append(deed)
            if draw.below(15) == 0:
                for _ in range(draw.below(len(story) + 1) if draw.below(3) == 0 else 1):
                    if story:
                        live.back()
                        story.pop()
            if draw.below(200) == 0:
                break
        yield draw, plan, book, memory, live, story


class Methods(unittest.TestCase):
    def test_examples(self):
        check_examples(self, EXAMPLES)

    def test_against_a_second_telling(self):
        changed = struck = 0
        for draw, plan, book, memory, live, story in lives(371, 160):
            machine = told_after(plan, book, memory, story)
            self.assertTrue(same(live.stand, machine.frozen()))
            self.assertTrue(same(live.story, tuple(story)))
            self.assertEqual(len(live), len(story))
            self.assertTrue(same(live.deeds(), machine.deeds()))
            self.assertTrue(same(live.plain(), machine.seen()))
            self.assertTrue(same(live.steps(), machine.steps))
            self.assertTrue(same(live.steps(), bridge(plan, book, memory, story)))
            self.assertTrue(same((live.plan, live.book), (plan, book)))
            self.assertTrue(same(live.taken_back(), machine.count))
            struck += machine.count
            for cell in range(plan[0]):
                words = [told[cell] for told in machine.history]
                watched = [(at, words[at + 1]) for at in range(len(story)) if words[at] != words[at + 1]]
                self.assertTrue(same(live.watch(cell), watched))
                self.assertTrue(same(live.now(cell), words[-1]))
                changed += len(watched)
            for core in range(len(book)):
                for number in range(8):
                    self.assertTrue(same(live.held(core, number), machine.cores[core]["regs"][number]))
        self.assertGreater(changed, 50)
        self.assertGreater(struck, 20)

    def test_deeds_by_names(self):
        live = Live(plan=PLAN, book=BOOK, memory=MEMORY)
        self.assertEqual(live.story, ())
        self.assertTrue(same(live.stand, first(PLAN, BOOK, MEMORY)))
        self.assertEqual(live.go(number=0, most=2), 2)
        self.assertIsNone(live.deed(deed=("run", 0, 1)))
        self.assertEqual(live.deed(("retire", 0)), ("do", 0))
        self.assertEqual([live.now(cell=0), live.held(core=0, number=1), live.watch(cell=0)], [3, 7, []])
        self.assertEqual(live.story, (("fetch", 0), ("fetch", 0), ("run", 0, 1), ("retire", 0)))
        live.steps().clear()
        live.deeds().clear()
        live.watch(0).append(1)
        self.assertEqual([live.steps(), live.watch(0)], [[("do", 0)], []])
        self.assertIsNot(live.deeds(), live.deeds())

    def test_deeds_that_are_not_let(self):
        for draw, plan, book, memory, live, story in lives(372, 20, 40):
            let, stand = live.deeds(), live.stand
            tried = [wrong for core in range(len(book)) for wrong in told_after(plan, book, memory, story).all_deeds(core)] + list(WRONG)
            tried += [other for deed in let[:3] for other in variants(deed)] + [("write", 0, 0, 0), ("fetch", False), ["fetch", 0], ("retire", 9), ("do", 0)]
            for wrong in tried:
                if not any(same(wrong, deed) for deed in let):
                    check_raises(self, NotLet, wrong, live.deed, wrong)
            self.assertTrue(same((live.stand, live.story), (stand, tuple(story))))

    def test_go(self):
        draw = Draw(373)
        for plan in PLANS:
            book = drawn_book(draw, 2, 6)
            memory = (1,) * plan[0]
            for number, most in ((0, 0), (0, 25), (1, 1), (10 ** 30, 60), (draw.below(10 ** 9) * 10 ** 40 + 7, 50), (2 ** 200 - 1, 100), (5, 0)):
                live, stand, story, left = Live(plan, book, memory), first(plan, book, memory), [], number
                self.assertEqual(live.go(number, most), most)
                for _ in range(most):
                    let = deeds(plan, book, stand)
                    story.append(let[left % len(let)])
                    left //= len(let)
                    stand = after(plan, book, stand, story[-1])
                self.assertTrue(same((live.story, live.stand), (tuple(story), stand)))
        # It goes on after an end, and it goes on from where it is.
        live = Live((1, 1, 1, 1, 1), ((),), (0,))
        self.assertEqual([live.go(0, 1), live.go(0, 2), live.story], [1, 2, (("ask", 0, 0, "read"), ("out", 0), ("in", 0))])
        for number, most, wrong in ((-1, -1, -1), (-10 ** 30, 0, -10 ** 30), (0, -1, -1), (10 ** 30, -5, -5)):
            check_raises(self, InvalidNumber, wrong, live.go, number, most)
        self.assertEqual(len(live), 3)

    def test_back(self):
        for draw, plan, book, memory, live, story in lives(374, 12, 30):
            stands = [first(plan, book, memory)]
            for deed in story:
                stands.append(after(plan, book, stands[-1], deed))
            while story:
                self.assertTrue(same(live.stand, stands[len(story)]))
                self.assertTrue(same(live.back(), story.pop()))
                self.assertTrue(same(live.story, tuple(story)))
            for _ in range(2):
                check_raises(self, Nothing, None, live.back)
            self.assertTrue(same((live.stand, live.story, live.steps(), live.taken_back()), (stands[0], (), [], 0)))
            self.assertEqual(live.go(3, 5), 5)

    def test_twins(self):
        for draw, plan, book, memory, live, story in lives(375, 15, 40):
            twin = live.twin()
            self.assertIs(type(twin), Live)
            self.assertIsNot(twin, live)
            self.assertTrue(same((twin.stand, twin.story, twin.steps(), twin.taken_back()), (live.stand, live.story, live.steps(), live.taken_back())))
            self.assertTrue(twin == live)
            twin.go(draw.below(1000), 7)
            self.assertTrue(same(live.story, tuple(story)))
            live.go(draw.below(1000), 3)
            self.assertEqual((len(twin), len(live)), (len(story) + 7, len(story) + 3))
            self.assertTrue(same(twin.stand, told_after(plan, book, memory, twin.story).frozen()))
            for _ in range(len(twin)):
                twin.back()
            check_raises(self, Nothing, None, twin.back)
            self.assertTrue(same(twin.stand, first(plan, book, memory)))
            self.assertEqual(len(live), len(story) + 3)

    def test_cells_and_numbers_out_of_range(self):
        live = Live(PLAN, BOOK, MEMORY)
        for wrong in (-1, 2, 32, 10 ** 30):
            check_raises(self, InvalidNumber, wrong, live.now, wrong)
            check_raises(self, InvalidNumber, wrong, live.watch, wrong)
            check_raises(self, InvalidNumber, wrong, live.held, wrong, 99)
        for wrong in (-1, 8, 10 ** 30):
            check_raises(self, InvalidNumber, wrong, live.held, 1, wrong)
        self.assertEqual([live.now(1), live.held(1, 7), live.watch(1)], [0, 0, []])

    def test_errors(self):
        for wrong in WRONG + ((6, 4, 2, 2, 4), list(PLAN)):
            check_raises(self, InvalidPlan, wrong, Live, wrong, wrong, wrong)
        for wrong in WRONG + (list(BOOK), ((("jump", 2),),)):
            check_raises(self, InvalidBook, wrong, Live, PLAN, wrong, wrong)
        for wrong in WRONG + ((0,), (0, 0, 0), [0, 0], (0, True)):
            check_raises(self, InvalidMemory, wrong, Live, PLAN, BOOK, wrong)


class TakenBack(unittest.TestCase):
    def test_loads_that_a_store_strikes(self):
        book = ((("load", 5, 7, 1), ("store", 0, 5, 0), ("load", 1, 7, 0), ("load", 2, 7, 0), ("add", 3, 1, 2)),)
        live = Live((2, 2, 2, 2, 6), book, (4, 0))
        for deed in [("fetch", 0)] * 5 + [("ask", 0, 0, "read"), ("out", 0), ("in", 0), ("run", 0, 2), ("run", 0, 3), ("run", 0, 4), ("run", 0, 0)]:
            live.deed(deed)
        self.assertEqual(live.taken_back(), 0)
        live.deed(("run", 0, 1))
        # The two loads read the cell too early; the sum is no load.
        self.assertEqual(live.taken_back(), 2)
        self.assertEqual([len(live.stand[0][0][5]), live.stand[0][0][3]], [2, 2])
        self.assertEqual(live.back(), ("run", 0, 1))
        self.assertEqual(live.taken_back(), 0)

    def test_only_what_is_struck_and_done_counts(self):
        book = ((("load", 1, 7, 0), ("load", 2, 7, 1), ("load", 3, 7, 0)),)
        live = Live((2, 1, 2, 2, 6), book, (4, 0))
        for deed in [("fetch", 0)] * 3 + [("ask", 0, 1, "read"), ("out", 0), ("in", 0), ("run", 0, 1), ("ask", 0, 0, "read"), ("out", 0), ("in", 0), ("run", 0, 2)]:
            live.deed(deed)
        live.deed(("drop", 0, 0))
        self.assertEqual([live.taken_back(), len(live.stand[0][0][5])], [1, 2])
        live.deed(("drop", 0, 1))
        # The load before the one that is struck from was not done.
        self.assertEqual([live.taken_back(), len(live.stand[0][0][5])], [2, 1])

    def test_loads_behind_an_ifzero(self):
        book = ((("load", 1, 7, 0), ("ifzero", 2, 3), ("load", 3, 7, 0), ("load", 4, 7, 0)),)
        live = Live((2, 1, 2, 2, 6), book, (4, 0))
        for deed in [("fetch", 0)] * 4 + [("ask", 0, 0, "read"), ("out", 0), ("in", 0), ("run", 0, 2), ("run", 0, 3), ("run", 0, 1)]:
            live.deed(deed)
        self.assertEqual([len(live.stand[0][0][5]), live.taken_back()], [2, 0])
        for deed in [("run", 0, 0), ("drop", 0, 0)]:
            live.deed(deed)
        self.assertEqual([len(live.stand[0][0][5]), live.taken_back()], [0, 1])

    def test_tags_are_no_rows(self):
        book = ((("load", 1, 7, 0), ("ifzero", 2, 3), ("load", 3, 7, 0), ("load", 4, 7, 0), ("set", 5, 5), ("set", 5, 6)),)
        live = Live((2, 1, 2, 2, 6), book, (4, 0))
        bring = [("ask", 0, 0, "read"), ("out", 0), ("in", 0)]
        for deed in [("fetch", 0)] * 4 + bring + [("run", 0, 0), ("run", 0, 2), ("drop", 0, 0)] + [("fetch", 0)] * 4 + bring + [("run", 0, 4), ("run", 0, 6), ("run", 0, 7)]:
            live.deed(deed)
        self.assertEqual([entry[:2] for entry in live.stand[0][0][5]], [(4, 0), (5, 1), (6, 2), (7, 3)])
        self.assertEqual(live.taken_back(), 2)
        live.deed(("run", 0, 5))
        # The guess was wrong; two done loads are gone, but they were not struck.
        self.assertEqual([len(live.stand[0][0][5]), live.taken_back()], [2, 2])

    def test_a_line_that_another_core_takes(self):
        live = Live((2, 1, 2, 2, 4), ((("load", 1, 7, 0),), ()), (4, 0))
        for deed in [("fetch", 0), ("ask", 0, 0, "read"), ("out", 0), ("in", 0), ("run", 0, 0), ("ask", 1, 0, "own"), ("out", 1)]:
            live.deed(deed)
        self.assertEqual(live.taken_back(), 0)
        live.deed(("in", 0))
        self.assertEqual(live.taken_back(), 1)


class Equal(unittest.TestCase):
    def test_alike_and_unlike(self):
        live = Live(PLAN, BOOK, MEMORY)
        check_boolean(self, True, live == Live(PLAN, BOOK, MEMORY))
        check_boolean(self, False, live != Live(PLAN, BOOK, MEMORY))
        for other in (Live((2, 1, 2, 2, 5), BOOK, MEMORY), Live(PLAN, BOOK + ((),), MEMORY), Live(PLAN, BOOK[::-1], MEMORY), Live(PLAN, BOOK, (3, 1))):
            check_boolean(self, False, live == other)
            check_boolean(self, True, live != other)
        # The stand is the same, the book is not.
        one, two = Live(PLAN, ((("set", 1, 7),),), MEMORY), Live(PLAN, ((("set", 1, 8),),), MEMORY)
        self.assertEqual(one.stand, two.stand)
        check_boolean(self, False, one == two)
        check_boolean(self, False, Live((2, 1, 2, 2, 4), BOOK, MEMORY) == Live((2, 1, 3, 2, 4), BOOK, MEMORY))
        other = Live(PLAN, BOOK, MEMORY)
        live.deed(("fetch", 0))
        check_boolean(self, False, live == other)
        other.deed(("fetch", 0))
        check_boolean(self, True, live == other)
        # The stand counts, not the story: two deeds of different cores in either sequence.
        live.deed(("fetch", 1))
        live.deed(("fetch", 0))
        other.deed(("fetch", 0))
        other.deed(("fetch", 1))
        self.assertNotEqual(live.story, other.story)
        check_boolean(self, True, live == other)
        check_boolean(self, False, Live(PLAN, BOOK, (3, 0)) == Live(PLAN, BOOK, (0, 3)))

    def test_other_objects(self):
        live = Live(PLAN, BOOK, MEMORY)
        for other in WRONG + (live.stand, (PLAN, BOOK, live.stand), 0, "live", Live):
            if not isinstance(other, Odd):
                check_boolean(self, False, live == other)
                check_boolean(self, True, live != other)
        self.assertNotIn(live, [None, 0, (), live.stand])
        self.assertIn(live, [None, live.twin()])

    def test_lengths(self):
        live = Live(PLAN, BOOK, MEMORY)
        self.assertEqual(len(live), 0)
        live.go(0, 5)
        self.assertEqual(len(live), 5)
        self.assertTrue(same(seen(PLAN, live.stand), live.plain()))


if __name__ == "__main__":
    unittest.main()
