import unittest

from touchroad.behaviours import behaviour_end, behaviour_ends, broken
from touchroad.certificates import certifies
from touchroad.ends import ends, run_leads
from touchroad.errors import InvalidBook, InvalidEnd, InvalidMemory, InvalidProgram, InvalidRun, NotShort, TooLong
from touchroad.fast import bridge, run_by, seen, steady
from touchroad.fences import fenced
from touchroad.road import (bare_book, behaviour_of_run, behaviour_of_sorted_run, end_up, is_outside, least_wholes, outside, outside_shown,
                            plain_book, sorted_book, viewing_of_run, viewing_of_sorted_run)
from touchroad.sortedmachine import sorted_ends
from touchroad.viewing import viewing_run_leads
from tests import reference_programs as told
from tests.helpers import WRONG, Draw, Odd, check_boolean, check_examples, check_raises, same, shares, variants
from tests.reference import Plain, all_ends, all_stands, is_book
from tests.reference_road import Tagged, book_of
from tests.reference_sorted import Sorted, all_places, sorted_stands, with_bars, no_bars
from tests.test_behaviours import NOT_SHORT, PASSING, UPDATES

EXAMPLES = """
>>> from touchroad.road import bare_book, end_up, least_wholes, outside, plain_book, sorted_book
>>> waiting = ((("set", 1, 1), ("put", 1, 0, 0, "give"), ("whole",)), (("set", 1, 1), ("await", 1, 0, 0, "take")))
>>> plain_book(waiting)[1]
(('set', 1, 1), ('load', 6, 0, 0), ('xor', 6, 6, 1), ('ifzero', 6, 5), ('jump', 1))
>>> [sorted_book(waiting)[0], bare_book(waiting)[0]]
[(('set', 1, 1), ('gap',), ('store', 1, 0, 0), ('fence',)), (('set', 1, 1), ('store', 1, 0, 0))]
>>> crossed = ((("set", 1, 1), ("put", 1, 0, 0, "loose"), ("whole",), ("get", 2, 0, 1, "loose")), (("set", 1, 1), ("put", 1, 0, 1, "loose"), ("whole",), ("get", 2, 0, 0, "loose")))
>>> late = (((0, 1, 0, 0, 0, 0, 0, 0), (0, 1, 0, 0, 0, 0, 0, 0)), (1, 1))
>>> [outside(crossed, plain_book(crossed), (0, 0)), outside(crossed, bare_book(crossed), (0, 0)) == late, least_wholes(crossed, (0, 0))]
[None, True, ((2,), (2,))]
"""

BOOKS = {"plain": plain_book, "sorted": sorted_book, "bare": bare_book}
CROSSED = ((("set", 1, 1), ("put", 1, 0, 0, "loose"), ("whole",), ("get", 2, 0, 1, "loose")),
           (("set", 1, 1), ("put", 1, 0, 1, "loose"), ("whole",), ("get", 2, 0, 0, "loose")))
LATE = (((0, 1, 0, 0, 0, 0, 0, 0), (0, 1, 0, 0, 0, 0, 0, 0)), (1, 1))
AWAIT, WHOLE = ("await", 0, 5, 0, "loose"), ("whole",)
WAITING = ((("set", 1, 1), ("put", 1, 5, 0, "give"), ("addto", 2, 1, 5, 1, "both"), ("whole",), ("get", 3, 5, 1, "loose")),
           (("set", 1, 1), ("await", 1, 5, 0, "take"), ("whole",), ("swap", 2, 1, 5, 1, "loose"), ("put", 2, 5, 0, "loose"), ("get", 4, 5, 0, "take")))
PLANS = ((2, 1, 2, 2, 4), (2, 2, 1, 4, 6), (2, 1, 1, 1, 2), (2, 2, 2, 3, 3))


def is_end_of_two(value):
    if type(value) is not tuple or len(value) != 2 or type(value[0]) is not tuple or len(value[0]) != 2:
        return False
    parts = value[0] + (value[1],)
    return (all(type(words) is tuple and all(type(w) is int and 0 <= w <= 65535 for w in words) for words in parts)
            and len(parts[0]) == len(parts[1]) == 8 and 1 <= len(value[1]) <= 32)


def rows_of(kind, *statements):
    return BOOKS[kind]((statements,))[0]


def drawn_run(draw, machine, most=150):
    """A drawn run of a machine, None if it does not end soon."""
    steps = []
    lazy = draw.below(4)
    while not machine.ended():
        found = machine.steps()
        if len(steps) == most or not found:
            return None
        quick = [step for step in found if step[0] == "do"]
        steps.append(draw.one_of(quick if quick and draw.below(lazy + 1) else found))
        machine.go(steps[-1])
    return steps


def runs(seed, many, names=told.STATEMENTS, short=None, hands=3, size=5):
    """Drawn programs with a drawn run of the plain or the sorted machine, with the machine after it."""
    draw = Draw(seed)
    while many:
        program = told.drawn_program(draw, 1 + draw.below(hands), size, names)
        if draw.below(3) == 0 and not short:
            program = tuple(tuple(s[:2] + (draw.one_of((1, 2, 5)),) + s[3:] if s[0] in ("get", "put") else s for s in hand) for hand in program)
        if short is not None and told.is_short(program) != short:
            continue
        kind = draw.one_of(("plain", "sorted"))
        if max(map(len, book_of(kind, program))) > 40:
            continue
        memory = tuple(draw.one_of((0, 0, 1, 2)) for _ in range(1 + draw.below(2)))
        machine = (Plain if kind == "plain" else Sorted)(book_of(kind, program), memory)
        run = drawn_run(draw, machine)
        if run is not None:
            many -= 1
            tagged = Tagged(kind, program, memory)
            for step in run:
                tagged.go(step)
            yield draw, kind, program, memory, run, tagged


class Books(unittest.TestCase):
    def test_examples(self):
        check_examples(self, EXAMPLES)

    def test_each_statement(self):
        for kind in BOOKS:
            for same_row in (("set", 5, 65535), ("add", 0, 1, 2), ("sub", 5, 5, 5), ("and", 1, 2, 3), ("xor", 3, 2, 1), ("below", 4, 0, 0)):
                self.assertTrue(same(rows_of(kind, same_row), (same_row,)))
            for mode in ("loose", "take"):
                self.assertTrue(same(rows_of(kind, ("get", 1, 2, 3, mode)), (("load", 1, 2, 3),)))
                self.assertTrue(same(rows_of(kind, ("await", 4, 2, 3, mode)),
                                     (("load", 6, 2, 3), ("xor", 6, 6, 4), ("ifzero", 6, 4), ("jump", 0))))
            for mode in ("loose", "take", "give", "both"):
                gap = (("gap",),) if kind == "sorted" and mode in ("give", "both") else ()
                for name in ("swap", "addto"):
                    self.assertTrue(same(rows_of(kind, (name, 1, 2, 3, 4, mode)), gap + ((name, 1, 2, 3, 4),)))
                if mode in ("loose", "give"):
                    self.assertTrue(same(rows_of(kind, ("put", 1, 2, 3, mode)), gap + (("store", 1, 2, 3),)))
            self.assertEqual(rows_of(kind, WHOLE), () if kind == "bare" else (("fence",),))
            self.assertEqual(rows_of(kind, ("if", 3, (), ())), (("ifzero", 3, 2), ("jump", 2)))
            self.assertEqual(rows_of(kind, ("again", 0, (WHOLE, AWAIT)), ("again", 5, ())), ())
            self.assertEqual(BOOKS[kind](((), ())), ((), ()))
            self.assertEqual(BOOKS[kind](program=((("set", 1, 2),),)), ((("set", 1, 2),),))

    def test_ifs_and_agains_inside_one_another(self):
        program = (("if", 1, (WHOLE, ("if", 2, (), (("again", 2, (("put", 1, 0, 0, "give"),)),))), (("await", 3, 0, 1, "take"),)), ("set", 5, 5))
        self.assertEqual(rows_of("plain", *program), (
            ("ifzero", 1, 7), ("fence",), ("ifzero", 2, 4), ("jump", 6), ("store", 1, 0, 0), ("store", 1, 0, 0), ("jump", 11),
            ("load", 6, 0, 1), ("xor", 6, 6, 3), ("ifzero", 6, 11), ("jump", 7), ("set", 5, 5)))
        self.assertEqual(rows_of("sorted", *program), (
            ("ifzero", 1, 9), ("fence",), ("ifzero", 2, 4), ("jump", 8), ("gap",), ("store", 1, 0, 0), ("gap",), ("store", 1, 0, 0), ("jump", 13),
            ("load", 6, 0, 1), ("xor", 6, 6, 3), ("ifzero", 6, 13), ("jump", 9), ("set", 5, 5)))
        self.assertEqual(rows_of("bare", *program), (
            ("ifzero", 1, 6), ("ifzero", 2, 3), ("jump", 5), ("store", 1, 0, 0), ("store", 1, 0, 0), ("jump", 10),
            ("load", 6, 0, 1), ("xor", 6, 6, 3), ("ifzero", 6, 10), ("jump", 6), ("set", 5, 5)))
        # A whole that is left out leads to what comes next, also at the end.
        self.assertEqual(rows_of("bare", ("if", 1, (), (WHOLE,)), WHOLE), (("ifzero", 1, 2), ("jump", 2)))
        self.assertEqual(rows_of("sorted", ("if", 1, (), (("swap", 1, 1, 1, 0, "both"),))), (("ifzero", 1, 2), ("jump", 4), ("gap",), ("swap", 1, 1, 1, 0)))
        self.assertEqual(rows_of("plain", ("again", 2, (("if", 1, (("again", 2, (AWAIT,)),), ()),)))[10:], (
            ("ifzero", 1, 20), ("load", 6, 5, 0), ("xor", 6, 6, 0), ("ifzero", 6, 15), ("jump", 11), ("load", 6, 5, 0), ("xor", 6, 6, 0),
            ("ifzero", 6, 19), ("jump", 15), ("jump", 20)))

    def test_against_labels(self):
        draw, most = Draw(311), 0
        for _ in range(400):
            program = told.drawn_program(draw, 1 + draw.below(4), 8, depth=3)
            for kind, made in BOOKS.items():
                book = book_of(kind, program)
                too_long = [hand for hand, rows in enumerate(book) if len(rows) > 40]
                if too_long:
                    check_raises(self, TooLong, too_long[0], made, program)
                else:
                    self.assertTrue(same(made(program), book), program)
                    self.assertTrue(is_book(made(program)))
                    most = max(most, max(map(len, book)))
        self.assertGreater(most, 25)

    def test_forty_rows_and_one_more(self):
        give, one = ("put", 0, 0, 0, "give"), ("set", 0, 0)
        hands = {"plain": ((("again", 8, (AWAIT,)), ("again", 8, (give,))), ("again", 8, ("again", 1, (WHOLE,)))),
                 "sorted": ((("again", 8, (give, give)), ("again", 2, (AWAIT,))), None),
                 "bare": ((("again", 8, (AWAIT, give, WHOLE)),), None)}
        for kind, (hand, _) in hands.items():
            self.assertEqual(len(BOOKS[kind](((), hand, hand + (("again", 0, (one,) * 5),)))[1]), 40)
            for longer in (hand + (one,), (one,) + hand, (("again", 1, hand + (one,)),), (("if", 0, hand, ()),)):
                check_raises(self, TooLong, 0, BOOKS[kind], (longer, longer, hand))
                check_raises(self, TooLong, 3, BOOKS[kind], (hand, (), hand, longer))
        for kind, made in BOOKS.items():
            ifs = ("again", 8, (("if", 0, (one,), (one, one)),))
            self.assertEqual(len(made(((ifs,),))[0]), 40)
            check_raises(self, TooLong, 0, made, ((ifs, one),))
            self.assertEqual(len(made(((("if", 0, (("again", 8, (one, one)),) + (one,) * 3, (one,)), ("if", 1, (), ()), ("again", 8, (one, one))),))[0]), 40)
        self.assertEqual(len(plain_book(((("again", 8, (WHOLE,) * 5),),))[0]), 40)
        check_raises(self, TooLong, 0, sorted_book, ((("again", 8, (WHOLE,) * 5), WHOLE),))
        # Each kind counts its own rows.
        self.assertEqual(len(bare_book(((("again", 8, (AWAIT, give, WHOLE)),),))[0]), 40)
        check_raises(self, TooLong, 0, plain_book, ((("again", 8, (AWAIT, give, WHOLE)),),))
        self.assertEqual(len(plain_book(((("again", 8, (give,) * 5),),))[0]), 40)
        check_raises(self, TooLong, 0, sorted_book, ((("again", 8, (give,) * 5),),))
        check_raises(self, TooLong, 1, sorted_book, ((), (("again", 8, (give,) * 5),)))
        huge = ("again", 8, (("again", 8, (("again", 8, (AWAIT,) * 20),)),))
        for made in BOOKS.values():
            check_raises(self, TooLong, 1, made, ((), (huge,)))

    def test_errors(self):
        for wrong in WRONG + ([()], ((("get", 0, 0, 0, "give"),),), (None,), ((), 5)):
            for made in BOOKS.values():
                check_raises(self, InvalidProgram, wrong, made, wrong)
            check_raises(self, InvalidProgram, wrong, end_up, wrong, None)
            for call in (behaviour_of_run, behaviour_of_sorted_run, viewing_of_run, viewing_of_sorted_run, outside, outside_shown):
                check_raises(self, InvalidProgram, wrong, call, wrong, None, None)
            check_raises(self, InvalidProgram, wrong, is_outside, wrong, None, None, None)
            check_raises(self, InvalidProgram, wrong, least_wholes, wrong, None)


class EndUp(unittest.TestCase):
    def test_right_ends(self):
        end = ((tuple(range(8)), (65535,) * 8), (3,))
        self.assertEqual(end_up(program=((), ()), end=end), (((0, 1, 2, 3, 4, 5), (65535,) * 6), (3,)))
        for cells in (1, 2, 31, 32):
            self.assertEqual(end_up(((),), (((1,) * 8,), (7,) * cells)), (((1,) * 6,), (7,) * cells))

    def test_other_objects(self):
        good = (((0,) * 8, (0,) * 8), (0, 1))
        for wrong in WRONG + ((good[0], ()), (good[0], (0,) * 33), (good[0][:1], (0, 0)), (good[0] + good[0][:1], (0, 0)), good + (0,), list(good),
                              (((0,) * 6, (0,) * 6), (0, 0)), ((), (0, 0))):
            check_raises(self, InvalidEnd, wrong, end_up, PASSING, wrong)
        for other in variants(good):
            if not is_end_of_two(other):
                check_raises(self, InvalidEnd, other, end_up, PASSING, other)
            else:
                self.assertTrue(same(end_up(PASSING, other), (tuple(words[:6] for words in other[0]), other[1])))


class Runs(unittest.TestCase):
    def check_viewing(self, kind, program, memory, run, tagged):
        """The run of the viewing machine does what the document says, by a second telling of that machine."""
        found = (viewing_of_run if kind == "plain" else viewing_of_sorted_run)(program, memory, run)
        self.assertIs(type(found), list)
        machine, acts = told.Viewing(program, memory), [[] for _ in program]
        for step in found:
            self.assertTrue(any(same(step, let) for let in machine.steps()), (program, memory, run, found))
            h, action = step[1], machine.next(step[1])
            own = (h, machine.done[h])
            acts[h].append(own)
            if action[0] in told.READS:
                cell = told.cell_of(action, machine.words[h], len(memory))
                self.assertEqual(machine.cells[cell][step[2]], tagged.sources[own] or ("first", cell))
            machine.go(step)
        self.assertTrue(machine.ended())
        self.assertEqual(acts, [[own for own in tagged.acts if own[0] == h] for h in range(len(program))])
        self.assertEqual([names[1:] for names in machine.cells], tagged.orders)
        self.assertEqual(machine.end(), tagged.end())
        check_boolean(self, True, viewing_run_leads(program, memory, tagged.end(), found))
        return found

    def test_viewing_behind_drawn_runs(self):
        seen_kinds = set()
        for names, seed, many in ((told.STATEMENTS, 312, 250), (UPDATES, 313, 120), (("put", "get", "await", "whole", "set"), 314, 120)):
            for draw, kind, program, memory, run, tagged in runs(seed, many, names):
                self.check_viewing(kind, program, memory, run, tagged)
                for own, source in tagged.sources.items():
                    seen_kinds.add((kind, "first" if source is None else "own" if source[0] == own[0] else "other"))
                    seen_kinds.add((kind, tagged.kinds.get(source), tagged.kinds.get(own, "await")))
                looks = sum(1 for role in tagged.roles for r in role if r == "look")
                done = sum(1 for step in run if step[0] == "do")
                seen_kinds.add("again" if looks and done > len(tagged.acts) + 4 * looks else "once")
                seen_kinds.add(len(tagged.orders[-1]) > 1 and len({own[0] for own in tagged.orders[-1]}) > 1)
                seen_kinds.add(told.is_short(program))
        self.assertTrue({(kind, which) for kind in ("plain", "sorted") for which in ("first", "own", "other")} <= seen_kinds)
        self.assertTrue({"again", "once", True, False} <= seen_kinds)
        self.assertTrue({(kind, source, reader) for kind in ("plain", "sorted") for source in ("store", "swap", "addto", None)
                         for reader in ("load", "swap", "addto", "await")} <= seen_kinds)

    def test_behaviours_behind_drawn_runs(self):
        """D1: the behaviour of a run is consistent, and has the end_up of its end."""
        for names, seed, many in ((told.STATEMENTS, 315, 200), (UPDATES, 316, 120), (("put", "get", "await", "whole", "set"), 317, 80)):
            for draw, kind, program, memory, run, tagged in runs(seed, many, names, True):
                call = behaviour_of_run if kind == "plain" else behaviour_of_sorted_run
                behaviour = call(program, memory, run)
                self.assertTrue(same(behaviour, tagged.behaviour()), (program, memory, run))
                one = told.Told(program, memory, behaviour)
                self.assertTrue(one.consistent())
                self.assertEqual(one.end(), tagged.end())
                self.assertIsNone(broken(program, memory, behaviour))
                self.assertEqual(behaviour_end(program, memory, behaviour), tagged.end())

    def test_a_run_by_hand(self):
        # The second hand looks at the cell before the put of the first hand is flushed, and once more behind it.
        run = [("do", 0)] * 2 + [("do", 1)] * 5 + [("flush", 0)] + [("do", 1)] * 4 + [("do", 0), ("do", 1), ("do", 1), ("do", 0), ("do", 0), ("do", 1), ("flush", 1)]
        program = WAITING
        behaviour = behaviour_of_run(program=program, memory=(0, 0), run=run)
        # The await read the put at its last load; the wholes came in the sequence of their fences.
        self.assertEqual(behaviour, (((), ()), ((1, -1), (2, 5), (3, 6), (4, 0), (5, -1), (6, 1), (8, 7)), ((0, 7), (1, 6), (5, 2))))
        self.assertEqual(viewing_of_run(program, (0, 0), run), [
            ("do", 0), ("touch", 0, 0), ("do", 1), ("touch", 1, 1), ("touch", 1, 0), ("touch", 0, 0), ("touch", 1, 1), ("touch", 1, 1),
            ("touch", 0, 1), ("touch", 0, 2), ("touch", 1, 2)])
        self.assertEqual(behaviour_of_run(((), ()), (5,), []), (((), ()), (), ((), ())))
        self.assertEqual(viewing_of_run(((), ()), (5,), []), [])
        self.assertEqual(viewing_of_sorted_run(((("again", 0, ()),),), (5,), []), [])

    def test_late_stores_that_overtake_one_another(self):
        program = ((("set", 1, 1), ("put", 1, 5, 0, "loose"), ("put", 1, 5, 1, "loose"), ("get", 2, 5, 0, "loose")), (("get", 1, 5, 1, "take"), ("get", 2, 5, 0, "take")))
        run = [("do", 0)] * 4 + [("flush", 0, 1), ("do", 1), ("do", 1), ("flush", 0, 0)]
        self.assertEqual(behaviour_of_sorted_run(program=program, memory=(0, 0), run=run),
                         (((), ()), ((2, 0), (3, 1), (4, -1)), ((0,), (1,), ())))
        self.assertEqual(viewing_of_sorted_run(program=program, memory=(0, 0), run=run),
                         [("do", 0), ("touch", 0, 0), ("touch", 0, 0), ("touch", 0, 1), ("touch", 1, 1), ("touch", 1, 0)])
        check_raises(self, InvalidRun, run, behaviour_of_run, program, (0, 0), run)
        check_raises(self, InvalidRun, run, viewing_of_run, program, (0, 0), run)

    def test_other_objects_are_refused(self):
        refused = 0
        for draw, kind, program, memory, run, tagged in runs(318, 60, short=True):
            calls = (behaviour_of_run, viewing_of_run) if kind == "plain" else (behaviour_of_sorted_run, viewing_of_sorted_run)
            at = draw.below(len(run) + 1)
            changed = [run[:at] + run[at + 1:], run[:at] + [("do", draw.below(3))] + run[at:], run[:at] + [("flush", 0)] + run[at:], run[::-1], tuple(run),
                       run[:at] + [("flush", 0, 0)] + run[at + 1:], run[:at] + run[at:at + 2][::-1] + run[at + 2:], run + [("do", 0)],
                       [list(step) for step in run], [step[:1] + (bool(step[1]),) + step[2:] for step in run], run + [None]] + list(WRONG)
            for other in changed:
                machine = (Plain if kind == "plain" else Sorted)(book_of(kind, program), memory)
                good = type(other) is list
                for step in other if good else ():
                    good = good and any(same(step, let) for let in machine.steps())
                    if good:
                        machine.go(step)
                if not good or not machine.ended():
                    refused += 1
                    for call in calls:
                        check_raises(self, InvalidRun, other, call, program, memory, other)
        self.assertGreater(refused, 500)

    def test_errors_in_their_sequence(self):
        long_hand = ((), (AWAIT,) * 11)
        for wrong in NOT_SHORT:
            for call in (behaviour_of_run, behaviour_of_sorted_run):
                check_raises(self, NotShort, wrong, call, wrong, None, None)
                check_raises(self, NotShort, wrong + long_hand[1:], call, wrong + long_hand[1:], None, None)
            for call in (viewing_of_run, viewing_of_sorted_run):
                check_raises(self, TooLong, 1, call, wrong + long_hand[1:], None, None)
                check_raises(self, InvalidMemory, None, call, wrong, None, None)
        for call in (behaviour_of_run, behaviour_of_sorted_run, viewing_of_run, viewing_of_sorted_run):
            check_raises(self, TooLong, 1, call, long_hand, None, None)
            for wrong in WRONG + ([0], (True,), (0,) * 33):
                check_raises(self, InvalidMemory, wrong, call, PASSING, wrong, None)
            for wrong in WRONG:
                if wrong != []:
                    check_raises(self, InvalidRun, wrong, call, PASSING, (0, 0), wrong)
        # Each call counts the rows of its own book.
        gives = ((("again", 8, (("put", 0, 0, 0, "give"),) * 5),),)
        check_raises(self, TooLong, 0, viewing_of_sorted_run, gives, (0,), [])
        check_raises(self, TooLong, 0, behaviour_of_sorted_run, gives, (0,), [])
        check_raises(self, InvalidRun, [], viewing_of_run, gives, (0,), [])
        check_raises(self, InvalidRun, [], behaviour_of_run, gives, (0,), [])

    def test_names_and_new_lists(self):
        run = [("do", 0), ("do", 0), ("do", 0), ("do", 1), ("do", 1), ("flush", 0), ("flush", 0)]
        first = viewing_of_run(program=PASSING, memory=(0, 0), run=run)
        self.assertFalse(shares([first], [viewing_of_run(PASSING, (0, 0), run)]))
        self.assertEqual(len(run), 7)
        first.clear()
        self.assertEqual(viewing_of_run(PASSING, (0, 0), run)[0], ("do", 0))


class FastMachine(unittest.TestCase):
    def test_ends_of_fast_machines(self):
        """D1 for fast machines: by the steady rule, and by drawn deeds with the steady rule's aims behind them."""
        ended = 0
        draw = Draw(319)
        for _ in range(40):
            program = told.drawn_program(draw, 1 + draw.below(3), 4)
            if max(map(len, book_of("plain", program))) > 40:
                continue
            plan, memory = draw.one_of(PLANS), (draw.below(3), draw.below(3))
            book = plain_book(program)
            made, stand = steady(plan, book, memory, 3000)
            weather = [draw.below(10 ** 6) for _ in range(500)]
            for deeds, after in ((made, stand), run_by(plan, book, memory, weather)):
                plain = seen(plan, after)
                if not all(row == len(rows) and not late for (row, _, late), rows in zip(plain[0], book)):
                    continue
                ended += 1
                end = (tuple(core[1] for core in plain[0]), plain[1])
                run = bridge(plan, book, memory, deeds)
                check_boolean(self, True, run_leads(book, memory, end, run))
                check_boolean(self, True, viewing_run_leads(program, memory, end_up(program, end), viewing_of_run(program, memory, run)))
                if told.is_short(program):
                    behaviour = behaviour_of_run(program, memory, run)
                    self.assertEqual(behaviour_end(program, memory, behaviour), end_up(program, end))
        self.assertGreater(ended, 40)


def crossing(draw):
    """A program whose hands put and then get, perhaps with a whole between."""
    hands = []
    for hand in range(2):
        cell = hand if draw.below(5) else 1 - hand
        made = [("set", 1, 1 + draw.below(2)), ("put", 1, 5, cell, draw.one_of(("loose", "give")))]
        if draw.below(4) == 0:
            made[1] = ("addto", 4, 1, 5, cell, "loose")
        if draw.below(4):
            made.append(WHOLE)
        if draw.below(4) == 0:
            made.append(draw.one_of((("put", 1, 5, 1, "loose"), ("addto", 3, 1, 5, 0, "both"), WHOLE, ("get", 3, 5, 0, "take"))))
        made.append(("get", 2, 5, 1 - hand if draw.below(5) else hand, draw.one_of(("loose", "take"))))
        hands.append(tuple(made))
    return tuple(hands)


def small(seed, many, rows=8, most=300, hands=2, names=("put", "put", "get", "get", "whole", "addto", "swap", "set"), behaviours=120):
    """Drawn short programs, with their memories, whose bare book is small."""
    draw = Draw(seed)
    while many:
        program = crossing(draw) if many % 2 else told.drawn_program(draw, 1 + draw.below(hands), 4, names, depth=1)
        memory = (draw.below(2), 0)
        book = book_of("bare", program)
        if not told.is_short(program) or sum(map(len, book)) > rows or told.how_many(program, memory) > behaviours:
            continue
        if all_stands(book, memory, most=most) is not None:
            many -= 1
            yield draw, program, memory


def consistent_ends(program, memory):
    ones = [told.Told(program, memory, behaviour) for behaviour in told.all_behaviours(program, memory)]
    return {one.end() for one in ones if one.consistent()}


def first_outside(found, inside):
    """The first of some ends of a book whose program end is in no set of ends."""
    for end in found:
        if (tuple(words[:6] for words in end[0]), end[1]) not in inside:
            return end
    return None


class Outside(unittest.TestCase):
    def test_of_the_plain_book_and_the_bare_book(self):
        found = 0
        for draw, program, memory in small(321, 60):
            inside = consistent_ends(program, memory)
            self.assertIsNone(outside(program, plain_book(program), memory))
            self.assertIsNone(outside_shown(program, plain_book(program), memory))
            book = bare_book(program)
            end = first_outside(all_ends(book, memory), inside)
            self.assertTrue(same(outside(program, book, memory), end))
            found += end is not None
            self.check_shown(program, book, memory, end)
        self.assertGreater(found, 3)

    def check_shown(self, program, book, memory, end):
        shown = outside_shown(program, book, memory)
        if end is None:
            self.assertIsNone(shown)
            return
        self.assertIs(type(shown), tuple)
        check_boolean(self, True, run_leads(book, memory, end, shown[0]))
        check_boolean(self, True, certifies(program, memory, end_up(program, end), shown[1]))
        check_boolean(self, True, is_outside(program, book, memory, shown))

    def test_of_other_books(self):
        """A book need not be made from the program; it needs as many cores as the program has hands."""
        other = ((("set", 1, 1), ("store", 1, 0, 0), ("set", 6, 9)), (("load", 1, 0, 0),))
        self.assertEqual(outside(PASSING, other, (0, 0)), (((0, 1, 0, 0, 0, 0, 9, 0), (0,) * 8), (1, 0)))
        self.assertIsNone(outside(((), ()), ((("set", 6, 1), ("stop",)), ()), (4,)))
        self.assertEqual(outside(((), ()), ((), (("set", 5, 1), ("jump", 1))), (4,)), None)
        self.assertEqual(outside(((), ()), ((), (("set", 5, 1), ("stop",))), (4,)), (((0,) * 8, (0, 0, 0, 0, 0, 1, 0, 0)), (4,)))
        for program in (PASSING, CROSSED):
            for wrong in (plain_book(program)[:1], plain_book(program) + ((),), (), ((),) * 4, list(plain_book(program)), ((("set", 8, 0),), ())) + WRONG:
                check_raises(self, InvalidBook, wrong, outside, program, wrong, None)
                check_raises(self, InvalidBook, wrong, outside_shown, program, wrong, None)
                check_raises(self, InvalidBook, wrong, is_outside, program, wrong, None, None)

    def test_is_outside_with_one_part_wrong(self):
        book = bare_book(CROSSED)
        run, certificate = outside_shown(program=CROSSED, book=book, memory=(0, 0))
        self.assertTrue(same(outside(program=CROSSED, book=book, memory=(0, 0)), LATE))
        before = repr((run, certificate))
        check_boolean(self, True, is_outside(program=CROSSED, book=book, memory=(0, 0), value=(run, certificate)))
        self.assertEqual(repr((run, certificate)), before)
        early = [("do", 0)] * 3 + [("flush", 0)] + [("do", 1)] * 3 + [("flush", 1)]
        wrong = [[run, certificate], (run,), (run, certificate, None), (certificate, run), (tuple(run), certificate), (run[:-1], certificate),
                 (run + [("do", 0)], certificate), (early, certificate), ([], certificate), (run, None), (run, ()), (run, certificate[1]),
                 (run, ("paths", ())), (run, ("paths", certificate[1] * 2)), ([list(step) for step in run], certificate), (Odd(), certificate), (run, Odd())]
        for other in wrong + list(WRONG):
            check_boolean(self, False, is_outside(CROSSED, book, (0, 0), other))
        check_boolean(self, False, is_outside(CROSSED, plain_book(CROSSED), (0, 0), (run, certificate)))
        check_boolean(self, False, is_outside(CROSSED, book, (0, 1), (run, certificate)))
        for other in variants(certificate):
            check_boolean(self, certifies(CROSSED, (0, 0), end_up(CROSSED, LATE), other), is_outside(CROSSED, book, (0, 0), (run, other)))

    def test_errors_in_their_sequence(self):
        for wrong in NOT_SHORT:
            check_raises(self, NotShort, wrong, outside, wrong, None, None)
            check_raises(self, NotShort, wrong, outside_shown, wrong, None, None)
            check_raises(self, NotShort, wrong, is_outside, wrong, None, None, None)
            check_raises(self, NotShort, wrong, least_wholes, wrong, None)
        for wrong in WRONG + ([0], (True,), (0,) * 33):
            check_raises(self, InvalidMemory, wrong, outside, PASSING, ((), ()), wrong)
            check_raises(self, InvalidMemory, wrong, outside_shown, PASSING, ((), ()), wrong)
            check_raises(self, InvalidMemory, wrong, is_outside, PASSING, ((), ()), wrong, None)
            check_raises(self, InvalidMemory, wrong, least_wholes, PASSING, wrong)
        gives = (("again", 8, (("put", 0, 0, 0, "give"),) * 5),)
        check_raises(self, TooLong, 1, least_wholes, ((), gives + (("set", 1, 1),)), None)
        check_raises(self, NotShort, NOT_SHORT[0] + (gives * 2,), least_wholes, NOT_SHORT[0] + (gives * 2,), None)
        # A whole has no row in the bare book.
        check_raises(self, InvalidMemory, None, least_wholes, ((), gives + (WHOLE,)), None)

    def test_the_plain_and_the_sorted_book_have_no_end_outside(self):
        """D1 and D2 over all ends."""
        for draw, program, memory in small(322, 40, names=told.STATEMENTS):
            inside = consistent_ends(program, memory)
            self.assertEqual(sorted(inside), behaviour_ends(program, memory))
            for found in (ends(plain_book(program), memory), sorted_ends(sorted_book(program), memory)):
                self.assertTrue({end_up(program, end) for end in found} <= inside)


class LeastWholes(unittest.TestCase):
    def test_against_all_places(self):
        needed = set()
        for draw, program, memory in small(323, 70, rows=7, names=("put", "put", "get", "get", "whole", "whole", "whole", "addto")):
            inside, book = consistent_ends(program, memory), bare_book(program)
            for places in all_places(book):
                if first_outside(all_ends(with_bars(book, places, no_bars(book)), memory), inside) is None:
                    break
            self.assertTrue(same(least_wholes(program, memory), places), (program, memory))
            needed.add(sum(map(len, places)))
            self.assertIsNone(outside(program, fenced(book, places), memory))
        self.assertTrue({0, 1, 2} <= needed, needed)

    def test_wholes_that_are_needed(self):
        self.assertEqual(least_wholes(program=CROSSED, memory=(0, 0)), ((2,), (2,)))
        self.assertEqual(least_wholes(((), (WHOLE,)), (0,)), ((), ()))
        self.assertEqual(least_wholes(PASSING, (0, 0)), ((), ()))
        self.assertEqual(least_wholes((CROSSED[0], CROSSED[1][:2] + CROSSED[1][3:]), (0, 0)), ((), ()))

    def test_a_program_with_as_many_rows_as_is_allowed(self):
        program = ((("set", 1, 1), ("put", 1, 0, 0, "loose"), WHOLE, ("get", 2, 0, 1, "loose"), ("set", 3, 3), ("set", 4, 4), ("set", 5, 5)),
                   (("set", 1, 1), ("put", 1, 0, 1, "loose"), WHOLE, ("get", 2, 0, 0, "loose"), ("set", 3, 3), ("set", 4, 4), ("set", 5, 5)))
        self.assertEqual(sum(map(len, bare_book(program))), 12)
        self.assertEqual(least_wholes(program, (0, 0)), ((2,), (2,)))


if __name__ == "__main__":
    unittest.main()
