import unittest

from touchroad.copies import fits, memory_now, state_of
from touchroad.ends import run_to
from touchroad.errors import InvalidBook, InvalidMemory, InvalidNumber, InvalidPlan, NotLet
from touchroad.fast import after, bridge, deeds, first, is_bridge, run_by, seen, steady, told
from touchroad.plain import has_ended, plain_after, plain_first, plain_run, plain_steps
from tests.helpers import (WRONG, Draw, Odd, check_boolean, check_examples, check_raises, drawn_book, leads_on, same,
                           variants)
from tests.reference import all_ends, all_stands
from tests.reference_fast import Fast

EXAMPLES = """
>>> from touchroad.fast import bridge, deeds, first, is_bridge, run_by, seen, steady
>>> one, other = (("set", 0, 1), ("store", 0, 7, 0), ("load", 1, 7, 1)), (("set", 0, 1), ("store", 0, 7, 1), ("load", 1, 7, 0))
>>> plan, book = (2, 1, 2, 2, 4), (one, other)
>>> deeds(plan, book, first(plan, book, (0, 0)))[:2]
[('fetch', 0), ('ask', 0, 0, 'read')]
>>> done = [("fetch", 0), ("fetch", 0), ("fetch", 0), ("run", 0, 1), ("ask", 0, 1, "read"), ("out", 0), ("in", 0), ("run", 0, 2), ("retire", 0), ("retire", 0), ("retire", 0)]
>>> bridge(plan, book, (0, 0), done)
[('do', 0), ('do', 0), ('do', 0)]
>>> [is_bridge(plan, book, (0, 0), done, [("do", 0)] * 3), is_bridge(plan, book, (0, 0), done, [("do", 0)] * 2)]
[True, False]
>>> made, stand = steady(plan, book, (0, 0), 2000)
>>> [seen(plan, stand)[1], len(bridge(plan, book, (0, 0), made))]
[(1, 1), 8]
"""

PLANS = ((2, 1, 2, 2, 4), (4, 2, 1, 1, 6), (8, 4, 2, 4, 3), (1, 1, 1, 1, 1), (4, 1, 4, 2, 6), (6, 2, 2, 3, 5), (2, 2, 1, 4, 2))
FETCH, RETIRE, FLUSH = ("fetch", 0), ("retire", 0), ("flush", 0)
ZEROS = (0,) * 8


def run(tag):
    return ("run", 0, tag)


def got(line, kind):
    return [("ask", 0, line, kind), ("out", 0), ("in", 0)]


def stand_after(plan, book, memory, done):
    stand = first(plan, book, memory)
    for deed in done:
        stand = after(plan, book, stand, deed)
    return stand


class Examples(unittest.TestCase):
    def test_examples(self):
        check_examples(self, EXAMPLES)


class OneCore(unittest.TestCase):
    """Stands of one core after deeds that are given."""

    plan = (2, 1, 2, 2, 6)

    def core(self, rows, done, memory=(5, 6), plan=None):
        plan = plan or self.plan
        stand = stand_after(plan, (tuple(rows),), memory, done)
        self.assertIs(fits(plan, stand[1]), True)
        return stand[0][0]

    def not_let(self, rows, done, *refused, plan=None):
        plan, book = plan or self.plan, (tuple(rows),)
        stand = stand_after(plan, book, (5, 6), done)
        for deed in refused:
            self.assertNotIn(deed, deeds(plan, book, stand))
            check_raises(self, NotLet, deed, after, plan, book, stand, deed)
            check_raises(self, NotLet, deed, told, plan, book, stand, deed)

    def test_first(self):
        stand = first(self.plan, ((("gap",), ("stop",)), ()), (5, 6))
        self.assertTrue(same(stand[0], ((0, ZEROS, (), 0, 0, (), (1, 1)), (0, ZEROS, (), 0, 0, (), ()))))

    def test_fetch_of_each_instruction(self):
        for row, word, following, note in (
                (("set", 1, 9), 9, 1, None), (("add", 1, 2, 2), None, 1, None), (("load", 1, 2, 0), None, 1, None),
                (("store", 1, 2, 0), None, 1, None), (("swap", 1, 2, 3, 0), None, 1, None),
                (("addto", 1, 2, 3, 0), None, 1, None), (("fence",), 0, 1, None), (("gap",), 0, 1, None),
                (("ifzero", 1, 2), None, 1, ("guess", 1)), (("jump", 2), 2, 2, None), (("jump", 0), 0, 0, None),
                (("stop",), 0, 2, None)):
            core = self.core((row, ("gap",)), [FETCH])
            many = {"add": 2, "load": 1, "store": 2, "swap": 2, "addto": 2, "ifzero": 1}.get(row[0], 0)
            self.assertTrue(same(core, (0, ZEROS, (), following, 1, ((0, 0, (("is", 0),) * many, None, word, note),), (1, 1))))

    def test_fetch_is_not_let(self):
        self.not_let((("gap",),), [FETCH], FETCH)
        self.not_let((("gap",),) * 5, [FETCH] * 2, FETCH, plan=(2, 1, 2, 2, 2))
        self.not_let((("jump", 1),), [FETCH], FETCH)
        self.not_let((("stop",), ("gap",)), [FETCH], FETCH, RETIRE, run(0))
        self.not_let((), [], FETCH, RETIRE, FLUSH, run(0))

    def test_sources(self):
        rows = (("set", 1, 4), ("load", 2, 0, 0), ("add", 3, 1, 2), ("sub", 2, 2, 3))
        core = self.core(rows, [FETCH] * 4)
        self.assertEqual([entry[2] for entry in core[5]], [
            (), (("is", 0),), (("is", 4), ("from", 1)), (("from", 1), ("from", 2))])
        core = self.core(rows, [FETCH] * 4 + got(0, "read") + [run(1)])
        self.assertEqual([entry[2] for entry in core[5]], [
            (), (("is", 0),), (("is", 4), ("is", 5)), (("is", 5), ("from", 2))])
        core = self.core(rows, [FETCH] * 4 + got(0, "read") + [run(1), run(2), run(3)])
        self.assertEqual(core[5][3], (3, 3, (("is", 5), ("is", 9)), None, 65532, None))
        core = self.core(rows, [FETCH, RETIRE, FETCH, FETCH])
        self.assertEqual((core[0], core[1][1], core[5][1][2]), (1, 4, (("is", 4), ("from", 1))))

    def test_run_is_not_let(self):
        rows = (("set", 1, 4), ("load", 2, 0, 0), ("add", 3, 1, 2), ("swap", 1, 1, 0, 0))
        self.not_let(rows, [FETCH] * 4, run(0), run(1), run(2), run(3), run(4), run(-1), ("run", 0, True),
                     ("run", 0), ("run", 0, 1, 1), ("run", 1, 1), ("run", 0, None), ("run", 0, Odd()))
        self.not_let(rows, [FETCH] * 3 + got(0, "read") + [run(1)], run(1))
        self.not_let((("fence",), ("load", 1, 0, 0)), [FETCH] * 2 + got(0, "read"), run(1))
        self.not_let((("swap", 1, 1, 0, 1), ("load", 1, 0, 0)), [FETCH] * 2 + got(0, "read"), run(0), run(1), RETIRE)
        self.assertEqual(self.core((("fence",), ("load", 1, 0, 0)), [FETCH] * 2 + got(0, "read") + [RETIRE, run(1)])[5][0][4], 5)

    def test_loads_and_where_their_words_come_from(self):
        rows = (("set", 1, 9), ("store", 1, 0, 0), ("load", 2, 0, 0), ("load", 3, 0, 1))
        core = self.core(rows, [FETCH] * 4 + [run(1), run(2)] + got(1, "read") + [run(3)])
        self.assertEqual(core[5][1:], (
            (1, 1, (("is", 9), ("is", 0)), 0, 9, None), (2, 2, (("is", 0),), 0, 9, ("window", 1)),
            (3, 3, (("is", 0),), 1, 6, ("line",))))
        core = self.core(rows, [FETCH] * 4 + [run(1), run(2), RETIRE, RETIRE])
        self.assertEqual((core[2], core[5][0][5]), (((1, 0, 9),), ("stores", 1)))
        core = self.core(rows, [FETCH] * 4 + [run(1), RETIRE, RETIRE, run(2)])
        self.assertEqual(core[5][0][4:], (9, ("stores", 1)))
        core = self.core(rows, [FETCH] * 4 + [run(1), run(2), RETIRE, RETIRE] + got(0, "own") + [FLUSH])
        self.assertEqual((core[2], core[5][0][5]), ((), ("line",)))
        core = self.core(rows, [FETCH] * 4 + [run(1), RETIRE, RETIRE] + got(0, "own") + [FLUSH, run(2)])
        self.assertEqual(core[5][0][4:], (9, ("line",)))

    def test_the_last_store_counts(self):
        rows = (("store", 0, 0, 0), ("set", 1, 9), ("store", 1, 0, 0), ("load", 2, 0, 0), ("load", 3, 0, 0))
        core = self.core(rows, [FETCH] * 5 + [run(0), run(2), run(3), RETIRE, run(4)])
        self.assertEqual([entry[4:] for entry in core[5][2:]], [(9, ("window", 2))] * 2)
        core = self.core(rows, [FETCH] * 5 + [run(0), run(2)] + [RETIRE] * 3 + [run(3)])
        self.assertEqual((core[2], core[5][0][4:]), (((0, 0, 0), (2, 0, 9)), (9, ("stores", 2))))

    def test_a_store_strikes_a_load_that_read_too_early(self):
        rows = (("load", 1, 0, 1), ("store", 0, 1, 0), ("load", 2, 0, 0), ("load", 3, 0, 0), ("gap",))
        early = [FETCH] * 5 + got(0, "read") + [run(2), run(3)] + got(1, "read") + [run(0)]
        core = self.core(rows, early)
        self.assertEqual([entry[4] for entry in core[5]], [6, None, 5, 5, 0])
        core = self.core(rows, early + [run(1)])
        self.assertTrue(same(core[3:6], (2, 5, ((0, 0, (("is", 0),), 1, 6, ("line",)),
                                                 (1, 1, (("is", 0), ("is", 6)), 0, 0, None)))), core)
        core = self.core(rows, early + [run(1), FETCH, run(5)])
        self.assertEqual((core[3:5], core[5][2]), ((3, 6), (5, 2, (("is", 0),), 0, 0, ("window", 1))))
        # Of another cell: nothing is struck.
        core = self.core((("load", 1, 0, 1), ("store", 0, 1, 1), ("load", 2, 0, 0)),
                         [FETCH] * 3 + got(0, "read") + [run(2)] + got(1, "read") + [run(0), run(1)])
        self.assertEqual((len(core[5]), core[3]), (3, 3))

    def test_a_younger_store_protects_a_load(self):
        rows = (("load", 1, 0, 1), ("store", 0, 1, 0), ("set", 3, 7), ("store", 3, 0, 0), ("load", 2, 0, 0))
        done = [FETCH] * 5 + [run(3), run(4)] + got(1, "read") + [run(0), run(1)]
        core = self.core(rows, done)
        self.assertEqual((len(core[5]), core[5][4][4:]), (5, (7, ("window", 3))))
        # Struck from the first load that read too early, not from the one that is protected.
        rows = (("load", 1, 0, 1), ("store", 0, 1, 0), ("load", 5, 0, 0), ("store", 3, 0, 0), ("load", 2, 0, 0))
        core = self.core(rows, [FETCH] * 5 + [run(3), run(4)] + got(0, "read") + got(1, "read") + [run(2), run(0), run(1)])
        self.assertEqual((len(core[5]), core[3], core[4]), (2, 2, 5))
        # A word of an older store in the window or among the late stores is too old.
        rows = (("store", 3, 0, 0), ("load", 1, 0, 1), ("store", 0, 1, 0), ("load", 2, 0, 0))
        done = [FETCH] * 4 + [run(0), run(3)] + got(1, "read") + [run(1)]
        self.assertEqual(self.core(rows, done)[5][3][5], ("window", 0))
        self.assertEqual(self.core(rows, done + [run(2)])[3], 3)
        self.assertEqual(self.core(rows, done + [RETIRE, run(2)])[3], 3)

    def test_tags_are_no_rows(self):
        """A wrong guess leaves tags that are far from the rows."""
        rows = (("ifzero", 1, 2), ("jump", 1), ("store", 3, 0, 0), ("load", 1, 0, 1), ("store", 0, 1, 0), ("load", 2, 0, 0))
        start = [FETCH] * 6 + [run(0)] + [FETCH] * 4 + [run(6), run(9)] + got(1, "read") + [run(7)]
        core = self.core(rows, start)
        self.assertEqual([entry[:2] for entry in core[5]], [(0, 0), (6, 2), (7, 3), (8, 4), (9, 5)])
        self.assertEqual(core[5][4][5], ("window", 6))
        core = self.core(rows, start + [run(8)])
        self.assertEqual((len(core[5]), core[3], core[4]), (4, 5, 10))
        core = self.core(rows, start + [RETIRE, RETIRE])
        self.assertEqual((core[0], core[2], core[5][2][5]), (3, ((6, 0, 0),), ("stores", 6)))
        core = self.core(rows, start + [RETIRE, RETIRE] + got(0, "own") + [FLUSH])
        self.assertEqual((core[2], core[5][2][5]), ((), ("line",)))
        self.not_let(rows, start, run(1), run(2), run(3), run(4), run(5), run(10))

    def test_guesses(self):
        rows = (("ifzero", 0, 0),)
        guesses, done = [], []
        for turn in range(4):
            done += [FETCH, run(turn), RETIRE]
            guesses.append(self.core(rows, done)[6][0])
        self.assertEqual(guesses, [2, 3, 3, 3])
        rows = (("set", 1, 1), ("ifzero", 1, 0), ("jump", 1))
        guesses, done = [], [FETCH, RETIRE]
        for turn in range(3):
            done += [FETCH, FETCH, run(1 + 2 * turn), RETIRE, RETIRE]
            guesses.append(self.core(rows, done)[6])
        self.assertEqual(guesses, [(1, 0, 1)] * 3)

    def test_a_wrong_guess(self):
        rows = (("ifzero", 1, 3), ("gap",), ("stop",), ("set", 2, 8))
        core = self.core(rows, [FETCH] * 3)
        self.assertEqual((core[3], [entry[1] for entry in core[5]]), (4, [0, 1, 2]))
        core = self.core(rows, [FETCH] * 3 + [run(0)])
        self.assertTrue(same(core, (0, ZEROS, (), 3, 3, ((0, 0, (("is", 0),), None, 3, ("guess", 1)),), (2, 1, 1, 1))))
        core = self.core(rows, [FETCH] * 3 + [run(0), RETIRE, FETCH])
        self.assertEqual((core[0], core[3:6]), (3, (4, 4, ((3, 3, (), None, 8, None),))))

    def test_a_right_guess(self):
        rows = (("set", 1, 1), ("ifzero", 1, 3), ("gap",), ("stop",))
        core = self.core(rows, [FETCH] * 4 + [run(1)])
        self.assertEqual((len(core[5]), core[5][1], core[6]), (4, (1, 1, (("is", 1),), None, 2, ("guess", 2)), (1, 0, 1, 1)))
        # Both outcomes lead to one row: the entries after it stay.
        core = self.core((("ifzero", 0, 1), ("gap",)), [FETCH] * 2 + [run(0)])
        self.assertEqual((len(core[5]), core[6]), (2, (2, 1)))

    def test_a_guess_that_is_taken(self):
        rows = (("ifzero", 0, 0), ("gap",))
        core = self.core(rows, [FETCH, run(0), RETIRE, FETCH, FETCH])
        self.assertEqual((core[0], core[3], core[6]), (0, 0, (2, 1)))
        self.assertEqual([entry[5] for entry in core[5]], [("guess", 0)] * 2)

    def test_retire(self):
        rows = (("set", 1, 9), ("store", 1, 0, 0), ("store", 1, 0, 1), ("fence",))
        self.not_let(rows, [], RETIRE)
        self.not_let(rows, [FETCH] * 4 + [RETIRE], RETIRE)
        self.not_let(rows, [FETCH] * 4 + [run(1), run(2), RETIRE, RETIRE], RETIRE, plan=(2, 1, 2, 1, 4))
        self.not_let(rows, [FETCH] * 4 + [run(1), run(2), RETIRE, RETIRE, RETIRE], RETIRE)
        done = [FETCH] * 4 + [run(1), run(2), RETIRE, RETIRE, RETIRE] + got(0, "own") + [FLUSH]
        self.not_let(rows, done, RETIRE, FLUSH)
        core = self.core(rows, done + got(1, "own") + [FLUSH, RETIRE])
        self.assertTrue(same(core, (4, (0, 9, 0, 0, 0, 0, 0, 0), (), 4, 4, (), (1, 1, 1, 1))))

    def test_jumps_and_gaps_retire(self):
        core = self.core((("jump", 2), ("gap",), ("gap",)), [FETCH, FETCH, RETIRE, RETIRE])
        self.assertEqual((core[0], core[3]), (3, 3))

    def test_swap_and_addto(self):
        rows = (("set", 1, 9), ("swap", 2, 1, 0, 0), ("addto", 3, 2, 0, 0), ("add", 4, 2, 3))
        self.not_let(rows, [FETCH] * 4 + [RETIRE], RETIRE, run(1))
        self.not_let(rows, [FETCH] * 4 + [RETIRE] + got(0, "read"), RETIRE)
        done = [FETCH] * 4 + [RETIRE] + got(0, "own")
        core = self.core(rows, done + [RETIRE])
        self.assertEqual((core[0], core[1][2], core[5]), (2, 5, (
            (2, 2, (("is", 5), ("is", 0)), None, None, None), (3, 3, (("is", 5), ("from", 2)), None, None, None))))
        stand = stand_after(self.plan, (rows,), (5, 6), done + [RETIRE, RETIRE, run(3), RETIRE])
        self.assertEqual((stand[0][0][1], memory_now(self.plan, stand[1])), ((0, 9, 5, 9, 14, 0, 0, 0), (14, 6)))
        self.assertEqual(told(self.plan, (rows,), stand_after(self.plan, (rows,), (5, 6), done), RETIRE), ("do", 0))
        # Not at the head of the window, and not with late stores.
        rows = (("store", 0, 0, 1), ("swap", 2, 1, 0, 0))
        self.not_let(rows, [FETCH] * 2 + [run(0)] + got(0, "own"), run(1))
        self.not_let(rows, [FETCH] * 2 + [run(0), RETIRE] + got(0, "own"), RETIRE)

    def test_the_cell_of_a_swap_waits_for_its_word(self):
        rows = (("load", 1, 0, 1), ("swap", 2, 3, 1, 0), ("load", 4, 0, 0))
        self.not_let(rows, [FETCH] * 3 + got(0, "own"), RETIRE, run(1), run(2))
        core = self.core(rows, [FETCH] * 3 + got(1, "read") + [run(0), RETIRE] + got(0, "own") + [RETIRE, run(2)])
        self.assertEqual((core[1][1:3], core[5][0][4:]), ((6, 5), (0, ("line",))))

    def test_lines_that_are_lost(self):
        rows = (("load", 1, 0, 1), ("load", 2, 0, 0), ("gap",), ("load", 3, 0, 0))
        done = [FETCH] * 4 + got(0, "read") + [run(1), run(3)] + got(1, "read") + [run(0)]
        core = self.core(rows, done + [("drop", 0, 0)])
        self.assertEqual((core[3], core[4], len(core[5])), (1, 4, 1))
        core = self.core(rows, done + [("drop", 0, 1)])
        self.assertEqual((core[3], core[4], core[5]), (0, 4, ()))
        rows = (("set", 1, 9), ("store", 1, 0, 0), ("load", 2, 0, 0))
        done = [FETCH] * 3 + got(0, "own") + [run(1), run(2), RETIRE, RETIRE]
        self.assertEqual(len(self.core(rows, done + [("drop", 0, 0)])[5]), 1)
        self.assertEqual(len(self.core(rows, done + [FLUSH, ("drop", 0, 0)])[5]), 0)

    def test_the_struck_load_of_a_line_with_several_cells(self):
        rows = (("load", 1, 0, 3), ("load", 2, 0, 1), ("load", 3, 0, 0))
        plan = (4, 2, 2, 2, 4)
        done = [FETCH] * 3 + got(0, "read") + got(1, "read") + [run(2), run(1), run(0)]
        core = self.core(rows, done + [("drop", 0, 0)], memory=(5, 6, 7, 8), plan=plan)
        self.assertEqual((core[3], [entry[4] for entry in core[5]]), (1, [8]))

    def test_sequence_of_the_deeds(self):
        rows = (("store", 0, 0, 0), ("store", 1, 1, 0), ("add", 2, 2, 2), ("gap",))
        done = [FETCH, run(0), RETIRE, FETCH, FETCH] + got(0, "own") + [("ask", 0, 1, "own"), ("out", 0)]
        plan, book = (2, 1, 2, 2, 6), (rows, ())
        stand = stand_after(plan, book, (5, 6), done)
        self.assertEqual(deeds(plan, book, stand), [
            FETCH, run(1), run(2), FLUSH, ("drop", 0, 0), ("in", 0), ("ask", 1, 0, "read"), ("ask", 1, 0, "own"),
            ("ask", 1, 1, "read"), ("ask", 1, 1, "own")])
        stand = after(plan, book, after(plan, book, stand, run(1)), ("in", 0))
        self.assertEqual(deeds(plan, book, stand)[:5], [FETCH, run(2), RETIRE, FLUSH, ("drop", 0, 0)])

    def test_what_is_told(self):
        rows = (("set", 1, 9), ("store", 1, 0, 0))
        book, stand = (rows,), first(self.plan, (rows,), (5, 6))
        for deed, step in [(FETCH, None), (FETCH, None), (run(1), None), (RETIRE, ("do", 0)), (RETIRE, ("do", 0))] + [
                (deed, None) for deed in got(0, "own")] + [(FLUSH, ("flush", 0)), (("drop", 0, 0), None)]:
            self.assertTrue(same(told(self.plan, book, stand, deed), step))
            stand = after(self.plan, book, stand, deed)
        self.assertEqual(seen(self.plan, stand), (((2, (0, 9, 0, 0, 0, 0, 0, 0), ()),), (9, 6)))

    def test_deeds_that_are_none(self):
        book = ((("gap",), ("gap",)), ())
        stand = first(self.plan, book, (5, 6))
        for deed in WRONG + (("write", 0, 0, 5), ("fetch",), ("fetch", 0, 0), ("fetch", True), ("fetch", False), ("fetch", 2),
                             ("fetch", -1), ["fetch", 0], ("Fetch", 0), (Odd(), 0), ("fetch", Odd()), ("fetch", 1),
                             ("do", 0), ("flush", 0), ("retire", 0), ("run", 0, 0), ("in", 0), ("fetch", None)):
            check_raises(self, NotLet, deed, after, self.plan, book, stand, deed)
            check_raises(self, NotLet, deed, told, self.plan, book, stand, deed)
            check_raises(self, NotLet, deed, bridge, self.plan, book, (5, 6), [deed, None])
            check_raises(self, NotLet, deed, is_bridge, self.plan, book, (5, 6), [deed, None], [])
        for good in (FETCH, ("ask", 1, 0, "own")):
            for deed in variants(good):
                if not same(deed, ("ask", 1, 1, "own")) and not same(deed, ("ask", 0, 0, "own")):
                    check_raises(self, NotLet, deed, after, self.plan, book, stand, deed)
        # Where much is let, what looks like it is not.
        book = ((("store", 0, 0, 0), ("gap",), ("gap",), ("add", 1, 1, 1)), (("gap",), ("load", 1, 0, 1), ("gap",)))
        done = [FETCH, run(0), RETIRE, FETCH, FETCH, FETCH] + got(0, "own") + [("drop", 0, 0)] + [("fetch", 1)] * 2 + [
            ("ask", 1, 1, "read"), ("out", 1), ("in", 1), ("ask", 1, 1, "own"), ("out", 0)] + got(0, "own") + [
            ("ask", 0, 1, "read")]
        stand = stand_after(self.plan, book, (5, 6), done)
        let = deeds(self.plan, book, stand)
        self.assertEqual({deed[0] for deed in let}, {"run", "retire", "flush", "fetch", "drop", "out"})
        for good in let:
            after(self.plan, book, stand, good)
            wrong = [good + (0,), good + (None,), list(good), (Odd(),) + good[1:], good[:1] + (good[1] - 2,) + good[2:],
                     good[:1] + (bool(good[1]),) + good[2:], (good[0].encode(),) + good[1:], good[:1], ()]
            wrong += [good[:2] + (bool(good[2]),) + good[3:], good[:2]] if len(good) > 2 else []
            for deed in wrong:
                check_raises(self, NotLet, deed, after, self.plan, book, stand, deed)
        # A write is a deed of copies, not of the fast machine.
        book = ((("gap",), ("gap",)), ())
        stand = stand_after(self.plan, book, (5, 6), got(0, "own"))
        check_raises(self, NotLet, ("write", 0, 0, 5), after, self.plan, book, stand, ("write", 0, 0, 5))


class TwoCores(unittest.TestCase):
    def test_a_line_is_lost_to_another_core(self):
        plan, book = (2, 1, 2, 2, 4), ((("load", 1, 0, 1), ("load", 2, 0, 0)), (("set", 1, 9), ("store", 1, 0, 0)))
        done = [("fetch", 0), ("fetch", 0)] + got(0, "read") + [run(1), ("ask", 1, 0, "own"), ("out", 1)]
        stand = stand_after(plan, book, (5, 6), done)
        self.assertEqual(stand[0][0][5][1][4:], (5, ("line",)))
        stand = after(plan, book, stand, ("in", 0))
        self.assertEqual((len(stand[0][0][5]), stand[0][0][3]), (1, 1))
        # A share does not make a core lose the line.
        done = [("fetch", 0), ("fetch", 0)] + got(0, "own") + [run(1), ("ask", 1, 0, "read"), ("out", 1), ("in", 0)]
        stand = stand_after(plan, book, (5, 6), done)
        self.assertEqual(len(stand[0][0][5]), 2)


class Drawn(unittest.TestCase):
    def test_against_the_reference(self):
        draw = Draw(21)
        for number in range(70):
            plan = PLANS[number % len(PLANS)]
            book = drawn_book(draw, 1 + draw.below(3), 9)
            memory = tuple(draw.word() for _ in range(plan[0]))
            other, stand = Fast(plan, book, memory), first(plan, book, memory)
            for _ in range(150):
                let = other.deeds()
                self.assertTrue(same(deeds(plan, book, stand), let))
                self.assertGreater(len(let), 0)
                own = [deed for deed in let if deed[0] in ("run", "retire", "flush")] or let
                deed = draw.one_of(own if draw.below(3) == 0 else let)
                if draw.below(4) == 0:
                    for core in range(len(book)):
                        for wrong in other.all_deeds(core):
                            if wrong not in let:
                                check_raises(self, NotLet, wrong, after, plan, book, stand, wrong)
                other.go(deed)
                stand = after(plan, book, stand, deed)
                self.assertTrue(same(stand, other.frozen()), deed)
                self.assertTrue(same(seen(plan, stand), other.seen()))
                self.assertIs(fits(plan, stand[1]), True)

    def test_m1(self):
        draw = Draw(22)
        for number in range(60):
            plan = PLANS[number % len(PLANS)]
            book = drawn_book(draw, 1 + draw.below(4), 8)
            memory = tuple(draw.word() for _ in range(plan[0]))
            stand, done, steps = first(plan, book, memory), [], []
            self.assertTrue(same(seen(plan, stand), plain_first(book, memory)))
            for _ in range(200):
                let = deeds(plan, book, stand)
                before = seen(plan, stand)
                for deed in let[:40] if draw.below(10) == 0 else [draw.one_of(let)]:
                    following, step = after(plan, book, stand, deed), told(plan, book, stand, deed)
                    if step is None:
                        self.assertEqual(seen(plan, following), before)
                    else:
                        self.assertIn(step, plain_steps(book, before))
                        self.assertEqual(seen(plan, following), plain_after(book, before, step))
                    last = following
                done.append(deed)
                steps += [] if step is None else [step]
                stand = last
            self.assertTrue(same(bridge(plan, book, memory, done), steps))
            self.assertEqual(plain_run(book, memory, steps), seen(plan, stand))
            self.assertIs(is_bridge(plan, book, memory, done, steps), True)
            for wrong in variants(tuple(steps[:5])):
                if isinstance(wrong, tuple) and not isinstance(wrong, Odd):
                    value = list(wrong) + steps[5:]
                    check_boolean(self, self.leads(book, memory, value, stand, plan),
                                  is_bridge(plan, book, memory, done, value))

    @staticmethod
    def leads(book, memory, value, stand, plan):
        if not all(type(s) is tuple and len(s) == 2 and type(s[0]) is str and type(s[1]) is int for s in value):
            return False
        try:
            return plain_run(book, memory, value) == seen(plan, stand)
        except NotLet:
            return False

    def test_is_bridge_of_other_lists(self):
        plan, book = (2, 1, 2, 2, 4), ((("gap",),), (("gap",),))
        done = [("fetch", 0), ("fetch", 1), ("retire", 1), ("retire", 0)]
        for value, good in (([("do", 1), ("do", 0)], True), ([("do", 0), ("do", 1)], True), ([("do", 0)], False),
                            ([("do", 0), ("do", True)], False), ([("do", 0), ("do", 1), None], False), ((), False),
                            ([["do", 0], ("do", 1)], False), ((("do", 0), ("do", 1)), False), ([], False)):
            check_boolean(self, good, is_bridge(plan, book, (0, 0), done, value))
        for value in WRONG:
            self.assertIs(is_bridge(plan, book, (0, 0), done, value), False)
        self.assertIs(is_bridge(plan, book, (0, 0), [], []), True)
        self.assertEqual(bridge(plan, book, (0, 0), []), [])

    def test_run_by(self):
        draw = Draw(23)
        for number in range(20):
            plan = PLANS[number % len(PLANS)]
            book = drawn_book(draw, 1 + draw.below(3), 6)
            memory = (3,) * plan[0]
            weather = [draw.one_of((draw.below(1000), 10 ** 59 + draw.below(10 ** 9), 0)) for _ in range(100)]
            other, chosen = Fast(plan, book, memory), []
            for integer in weather:
                let = other.deeds()
                chosen.append(let[integer % len(let)])
                other.go(chosen[-1])
            self.assertTrue(same(run_by(plan, book, memory, weather), (chosen, other.frozen())))
        self.assertTrue(same(run_by(plan=plan, book=book, memory=memory, weather=[]), ([], first(plan, book, memory))))

    def test_run_by_goes_on_after_an_end(self):
        done, stand = run_by((1, 1, 1, 1, 1), ((),), (0,), [0] * 50)
        self.assertEqual(done[:4], [("ask", 0, 0, "read"), ("out", 0), ("in", 0), ("ask", 0, 0, "own")])
        self.assertEqual(len(done), 50)

    def test_run_by_below_zero(self):
        plan, book = (1, 1, 1, 1, 1), ((),)
        check_raises(self, InvalidNumber, -1, run_by, plan, book, (0,), [0, 5, -1, -2])
        check_raises(self, InvalidNumber, -10 ** 59, run_by, plan, book, (0,), [-10 ** 59])


class Steady(unittest.TestCase):
    def test_against_the_reference(self):
        draw = Draw(31)
        for number in range(80):
            plan = PLANS[number % len(PLANS)]
            book = drawn_book(draw, 1 + draw.below(4), 9)
            memory = tuple(draw.word() for _ in range(plan[0]))
            other, done, turns = Fast(plan, book, memory), [], 300
            for turn in range(turns):
                if other.ended():
                    break
                deed = other.steady_deed(turn % len(book))
                if deed is not None:
                    other.go(deed)
                    done.append(deed)
            told_, stand = steady(plan, book, memory, turns)
            self.assertTrue(same((told_, stand), (done, other.frozen())))
            if leads_on(book):
                _, stand = steady(plan, book, memory, 20000)
                self.assertIs(has_ended(book, seen(plan, stand)), True)

    def test_each_case(self):
        plan = (2, 1, 1, 1, 2)
        rows = (("load", 1, 0, 0), ("set", 2, 7), ("store", 2, 0, 1), ("swap", 3, 2, 0, 0), ("load", 4, 0, 1))
        done, stand = steady(plan, (rows,), (5, 6), 100)
        self.assertEqual(done, [
            FETCH, FETCH, ("ask", 0, 0, "read"), ("out", 0), ("in", 0), run(0), RETIRE, RETIRE,
            FETCH, run(2), RETIRE, FETCH, FETCH, ("drop", 0, 0), ("ask", 0, 1, "own"), ("out", 0), ("in", 0), FLUSH,
            ("drop", 0, 1), ("out", 0), ("ask", 0, 0, "own"), ("out", 0), ("in", 0), RETIRE,
            ("drop", 0, 0), ("out", 0), ("ask", 0, 1, "read"), ("out", 0), ("in", 0), run(4), RETIRE])
        self.assertEqual(seen(plan, stand), (((5, (0, 5, 7, 5, 7, 0, 0, 0), ()),), (7, 7)))

    def test_the_least_line_is_dropped(self):
        rows = tuple(("load", 1, 0, k) for k in (2, 1, 3, 0, 1))
        for room, drops in ((1, [2, 1, 3, 0]), (2, [1, 2, 0]), (3, [1, 0]), (4, [])):
            done, stand = steady((4, 1, room, 1, 1), (rows,), (5, 6, 7, 8), 200)
            self.assertEqual([deed[2] for deed in done if deed[0] == "drop"], drops)
            self.assertEqual(seen((4, 1, room, 1, 1), stand)[0][0][:2], (5, (0, 6, 0, 0, 0, 0, 0, 0)))

    def test_turns(self):
        plan, book = (1, 1, 1, 1, 1), ((("gap",),), (("gap",), ("gap",)))
        self.assertEqual(steady(plan, book, (0,), 0), ([], first(plan, book, (0,))))
        self.assertEqual(steady(plan, book, (0,), 1)[0], [("fetch", 0)])
        self.assertEqual(steady(plan, book, (0,), 5)[0], [
            ("fetch", 0), ("fetch", 1), ("retire", 0), ("retire", 1)])
        self.assertEqual(steady(plan, book, (0,), 6)[0][-1], ("fetch", 1))
        self.assertEqual(steady(plan, book, (0,), 20000)[0], [
            ("fetch", 0), ("fetch", 1), ("retire", 0), ("retire", 1), ("fetch", 1), ("retire", 1)])
        self.assertEqual(steady(plan, ((), (("stop",),)), (0,), 20000)[0], [])
        for turns in (-1, 20001, 10 ** 40):
            check_raises(self, InvalidNumber, turns, steady, plan, book, (0,), turns)

    def test_a_book_that_never_ends(self):
        plan, book = (2, 1, 1, 1, 3), ((("addto", 1, 2, 0, 0), ("set", 2, 1), ("jump", 0)),)
        done, stand = steady(plan, book, (0, 0), 20000)
        self.assertGreater(memory_now(plan, stand[1])[0], 1000)
        self.assertEqual(len(bridge(plan, book, (0, 0), done)), len([deed for deed in done if deed[0] == "retire"]))


class Guarantees(unittest.TestCase):
    """Each end of the plain machine is one of a fast machine, if its plan allows as many late stores."""

    def do(self, deed):
        self.stand = after(self.plan, self.book, self.stand, deed)
        self.done.append(deed)

    def let(self, *names):
        return [deed for deed in deeds(self.plan, self.book, self.stand) if deed[0] in names]

    def bring(self, core, cell, kind):
        line = cell // self.plan[1]
        if kind == "own" and state_of(self.stand[1], core, line) == "owned":
            return
        if kind == "read" and state_of(self.stand[1], core, line) is not None:
            return
        if ("ask", core, line, kind) not in self.let("ask"):
            self.do([deed for deed in self.let("drop") if deed[1] == core][0])
        self.do(("ask", core, line, kind))
        while self.let("out", "in"):
            self.do(self.let("out", "in")[0])

    def step(self, name, core):
        """Do the deeds for one step, with a window of one instruction."""
        if name == "flush":
            self.bring(core, self.stand[0][core][2][0][1], "own")
            self.do(("flush", core))
            return
        self.do(("fetch", core))
        tag, row, sources = self.stand[0][core][5][0][:3]
        instruction = self.book[core][row]
        if instruction[0] in ("load", "swap", "addto"):
            cell = (sources[-1][1] + instruction[-1]) % self.plan[0]
            if instruction[0] != "load" or cell not in [store[1] for store in self.stand[0][core][2]]:
                self.bring(core, cell, "read" if instruction[0] == "load" else "own")
        if ("run", core, tag) in self.let("run"):
            self.do(("run", core, tag))
        self.do(("retire", core))

    def test_each_end_is_one_of_a_fast_machine(self):
        draw, many = Draw(61), 0
        while many < 80:
            self.book = drawn_book(draw, 1 + draw.below(3), 5)
            memory = tuple(draw.word() for _ in range(1 + draw.below(4)))
            stands = all_stands(self.book, memory, most=500)
            if not stands or max(len(core[2]) for stand in stands for core in stand[0]) > 4:
                continue
            room, line = 1 + draw.below(2), 2 if len(memory) % 2 == 0 else 1
            for one in all_ends(self.book, memory)[:6]:
                many += 1
                run_, self.done = run_to(self.book, memory, one), []
                self.plan = (len(memory), line, room, 4, 1)
                self.stand = first(self.plan, self.book, memory)
                for name, core in run_:
                    self.step(name, core)
                self.assertEqual(bridge(self.plan, self.book, memory, self.done), run_)
                stand = seen(self.plan, self.stand)
                self.assertIs(has_ended(self.book, stand), True)
                self.assertEqual((tuple(core[1] for core in stand[0]), stand[1]), one)


class Errors(unittest.TestCase):
    def test_wrong_plans_books_and_memories(self):
        plan, book, memory = (2, 1, 1, 1, 1), ((("gap",),),), (5, 6)
        stand = first(plan, book, memory)
        for value in WRONG:
            for call, rest in ((first, ()), (run_by, ([-1],)), (steady, (-1,)), (bridge, ([None],)), (is_bridge, ([None], 0))):
                check_raises(self, InvalidPlan, value, call, value, value, value, *rest)
                check_raises(self, InvalidBook, value, call, plan, value, value, *rest)
                check_raises(self, InvalidMemory, value, call, plan, book, value, *rest)
                check_raises(self, InvalidMemory, (5,), call, plan, book, (5,), *rest)
                check_raises(self, InvalidMemory, (5, 6, 7), call, plan, book, (5, 6, 7), *rest)
            for call, rest in ((deeds, (stand,)), (after, (stand, None)), (told, (stand, None))):
                check_raises(self, InvalidPlan, value, call, value, value, *rest)
                check_raises(self, InvalidBook, value, call, plan, value, *rest)
            check_raises(self, InvalidPlan, value, seen, value, stand)


if __name__ == "__main__":
    unittest.main()
