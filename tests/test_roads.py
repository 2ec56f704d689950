import unittest

from touchroad.behaviours import behaviour_end, broken
from touchroad.certificates import certifies
from touchroad.errors import (InvalidBook, InvalidMemory, InvalidNumber, InvalidPlan, InvalidProgram, NotLet, NotReady, NotShort, TooLong)
from touchroad.fast import steady
from touchroad.live import Live
from touchroad.plain import has_ended, plain_run
from touchroad.road import bare_book, behaviour_of_run, end_up, is_outside, plain_book, sorted_book
from touchroad.roads import Road, is_sorted_outside, least_road_gaps, sorted_outside, sorted_outside_shown
from touchroad.sortedmachine import sorted_run_leads
from touchroad.tongue import is_short
from touchroad.viewing import viewing_run_leads
from tests import reference_programs as told
from tests.helpers import WRONG, Draw, Odd, check_boolean, check_examples, check_raises, same, variants
from tests.reference_fast import Fast
from tests.reference_road import Tagged, book_of
from tests.reference_sorted import all_places, no_bars, sorted_all_ends, sorted_stands, with_bars
from tests.test_behaviours import NOT_SHORT, PASSING
from tests.test_road import AWAIT, PLANS, consistent_ends, first_outside

EXAMPLES = """
>>> from touchroad.roads import Road, least_road_gaps, sorted_outside
>>> from touchroad.road import plain_book, sorted_book
>>> passing = ((("set", 1, 1), ("put", 1, 0, 0, "loose"), ("put", 1, 0, 1, "give")), (("get", 1, 0, 1, "take"), ("get", 2, 0, 0, "loose")))
>>> [sorted_outside(passing, plain_book(passing), (0, 0))[0][1][:3], sorted_outside(passing, sorted_book(passing), (0, 0)), least_road_gaps(passing, (0, 0))]
[(0, 1, 0), None, ((2,), ())]
>>> road = Road((2, 1, 2, 2, 4), passing, (0, 0))
>>> [road.rest(2000), road.climb()[3][1], len(road.climb()[0])]
[True, (1, 1), 7]
"""

LONG = (AWAIT,) * 11
PLAN = (2, 1, 2, 2, 4)


def passing_program(draw):
    """A program in which one hand puts to several cells and another one gets them, with modes of all kinds."""
    first = draw.below(2)
    one = (("set", 1, 1 + draw.below(2)), ("put", 1, 5, first, draw.one_of(("loose", "loose", "give"))))
    if draw.below(4) == 0:
        one += (draw.one_of((("put", 1, 5, first, "loose"), ("whole",), ("get", 2, 5, 1 - first, "loose"))),)
    one += (draw.one_of((("put", 1, 5, 1 - first, "give"), ("put", 1, 5, 1 - first, "give"), ("put", 1, 5, 1 - first, "loose"), ("addto", 3, 1, 5, 1 - first, "both"))),)
    two = (("get", 2, 5, 1 - first, draw.one_of(("loose", "take", "take"))), ("get", 3, 5, first, draw.one_of(("loose", "take"))))
    if draw.below(4) == 0:
        two = (("set", 1, 2), ("put", 1, 5, draw.below(2), "give")) + two
    return (one, two) if draw.below(4) else (two, one)


def small(seed, many, rows=8, most=300):
    draw = Draw(seed)
    while many:
        program = passing_program(draw) if many % 4 else told.drawn_program(draw, 2, 3, depth=1)
        memory = (draw.below(2), 0)
        book = book_of("plain", program)
        if not told.is_short(program) or sum(map(len, book)) > rows or told.how_many(program, memory) > 200:
            continue
        if sorted_stands(book, memory, most=most) is not None:
            many -= 1
            yield draw, program, memory


class SortedOutside(unittest.TestCase):
    def test_examples(self):
        check_examples(self, EXAMPLES)

    def test_of_all_books(self):
        """D3: sorted_outside returns None for the sorted book."""
        found = 0
        for draw, program, memory in small(381, 80):
            inside = consistent_ends(program, memory)
            self.assertIsNone(sorted_outside(program, sorted_book(program), memory))
            self.assertIsNone(sorted_outside_shown(program, sorted_book(program), memory))
            for book in (plain_book(program), bare_book(program)):
                end = first_outside(sorted_all_ends(book, memory), inside)
                self.assertTrue(same(sorted_outside(program, book, memory), end))
                shown = sorted_outside_shown(program, book, memory)
                found += end is not None
                if end is None:
                    self.assertIsNone(shown)
                else:
                    check_boolean(self, True, sorted_run_leads(book, memory, end, shown[0]))
                    check_boolean(self, True, certifies(program, memory, end_up(program, end), shown[1]))
                    check_boolean(self, True, is_sorted_outside(program, book, memory, shown))
        self.assertGreater(found, 10)

    def test_one_part_wrong(self):
        book = plain_book(PASSING)
        end = sorted_outside(program=PASSING, book=book, memory=(0, 0))
        self.assertEqual(end, (((0, 1, 0, 0, 0, 0, 0, 0), (0, 1, 0, 0, 0, 0, 0, 0)), (1, 1)))
        run, certificate = sorted_outside_shown(program=PASSING, book=book, memory=(0, 0))
        check_boolean(self, True, is_sorted_outside(program=PASSING, book=book, memory=(0, 0), value=(run, certificate)))
        plain = [step[:2] for step in run]
        early = [("do", 0)] * 3 + [("flush", 0, 0), ("flush", 0, 1)] + [("do", 1)] * 2
        for other in [[run, certificate], (run,), (run, certificate, None), (certificate, run), (tuple(run), certificate), (run[:-1], certificate), (plain, certificate),
                      (run + [("do", 0)], certificate), (early, certificate), (run, None), (run, ("paths", ())), ([list(s) for s in run], certificate),
                      (Odd(), certificate), (run, Odd()), ([], certificate)] + list(WRONG):
            check_boolean(self, False, is_sorted_outside(PASSING, book, (0, 0), other))
        check_boolean(self, False, is_sorted_outside(PASSING, sorted_book(PASSING), (0, 0), (run, certificate)))
        check_boolean(self, False, is_outside(PASSING, book, (0, 0), (run, certificate)))
        for other in variants(certificate):
            check_boolean(self, certifies(PASSING, (0, 0), end_up(PASSING, end), other), is_sorted_outside(PASSING, book, (0, 0), (run, other)))

    def test_least_road_gaps_against_all_places(self):
        needed = set()
        for draw, program, memory in small(382, 60, rows=7):
            inside, book = consistent_ends(program, memory), plain_book(program)
            for places in all_places(book):
                if first_outside(sorted_all_ends(with_bars(book, no_bars(book), places), memory), inside) is None:
                    break
            self.assertTrue(same(least_road_gaps(program=program, memory=memory), places), (program, memory))
            needed.add(places)
        self.assertGreater(len({places for places in needed if any(places)}), 1)
        self.assertIn(((), ()), needed)

    def test_a_program_with_as_many_rows_as_is_allowed(self):
        more = (("set", 3, 3), ("set", 4, 4), ("set", 5, 5))
        program = ((("set", 1, 1), ("put", 1, 0, 0, "loose"), ("put", 1, 0, 1, "give")) + more, (("get", 1, 0, 1, "take"), ("get", 2, 0, 0, "loose")) + more + (("whole",),))
        self.assertEqual(sum(map(len, plain_book(program))), 12)
        self.assertEqual(least_road_gaps(program, (0, 0)), ((2,), ()))

    def test_errors_in_their_sequence(self):
        for wrong in WRONG + ([()], ((("get", 0, 0, 0, "give"),),)):
            check_raises(self, InvalidProgram, wrong, sorted_outside, wrong, None, None)
            check_raises(self, InvalidProgram, wrong, sorted_outside_shown, wrong, None, None)
            check_raises(self, InvalidProgram, wrong, is_sorted_outside, wrong, None, None, None)
            check_raises(self, InvalidProgram, wrong, least_road_gaps, wrong, None)
        for wrong in NOT_SHORT + (NOT_SHORT[0] + (LONG,),):
            check_raises(self, NotShort, wrong, sorted_outside, wrong, None, None)
            check_raises(self, NotShort, wrong, sorted_outside_shown, wrong, None, None)
            check_raises(self, NotShort, wrong, is_sorted_outside, wrong, None, None, None)
            check_raises(self, NotShort, wrong, least_road_gaps, wrong, None)
        for wrong in WRONG + ((), ((),), ((),) * 3, list(plain_book(PASSING))):
            check_raises(self, InvalidBook, wrong, sorted_outside, PASSING, wrong, None)
            check_raises(self, InvalidBook, wrong, sorted_outside_shown, PASSING, wrong, None)
            check_raises(self, InvalidBook, wrong, is_sorted_outside, PASSING, wrong, None, None)
        check_raises(self, TooLong, 2, least_road_gaps, ((), (), LONG, LONG), None)
        for wrong in WRONG + ([0], (True,), (0,) * 33):
            check_raises(self, InvalidMemory, wrong, sorted_outside, PASSING, ((), ()), wrong)
            check_raises(self, InvalidMemory, wrong, sorted_outside_shown, PASSING, ((), ()), wrong)
            check_raises(self, InvalidMemory, wrong, is_sorted_outside, PASSING, ((), ()), wrong, None)
            check_raises(self, InvalidMemory, wrong, least_road_gaps, PASSING, wrong)


def programs(seed, many):
    draw = Draw(seed)
    while many:
        program = told.drawn_program(draw, 1 + draw.below(3), 4)
        if draw.below(3) == 0:
            program = tuple(tuple(s[:2] + (draw.one_of((1, 2, 5)),) + s[3:] if s[0] in ("get", "put") else s for s in hand) for hand in program)
        if max(map(len, book_of("plain", program))) <= 40:
            many -= 1
            yield draw, program, draw.one_of(PLANS), (draw.below(3), draw.below(3))


class Roads(unittest.TestCase):
    def check_climb(self, program, plan, memory, road):
        """D4, and what the document says of the four items."""
        book = plain_book(program)
        steps, behaviour, viewing, end = road.climb()
        self.assertIs(type(road.climb()), tuple)
        self.assertTrue(same(steps, road.live.steps()))
        stand = plain_run(book, memory, steps)
        check_boolean(self, True, has_ended(book, stand))
        self.assertTrue(same(end, end_up(program, (tuple(core[1] for core in stand[0]), stand[1]))))
        check_boolean(self, True, viewing_run_leads(program, memory, end, viewing))
        tagged = Tagged("plain", program, memory)
        for step in steps:
            tagged.go(step)
        self.assertEqual(tagged.end(), end)
        if is_short(program):
            self.assertTrue(same(behaviour, tagged.behaviour()))
            self.assertTrue(same(behaviour, behaviour_of_run(program, memory, steps)))
            self.assertIsNone(broken(program, memory, behaviour))
            self.assertEqual(behaviour_end(program, memory, behaviour), end)
        else:
            self.assertIsNone(behaviour)
        return behaviour is None

    def test_rest_in_one_call(self):
        ended = {True: 0, False: 0}
        for draw, program, plan, memory in programs(383, 90):
            road = Road(plan=plan, program=program, memory=memory)
            self.assertTrue(road.live == Live(plan, plain_book(program), memory))
            turns = draw.one_of((0, 1, 5, 60, 3000))
            made, stand = steady(plan, plain_book(program), memory, turns)
            answer = road.rest(turns=turns)
            self.assertTrue(same((road.live.story, road.live.stand), (tuple(made), stand)))
            check_boolean(self, has_ended(plain_book(program), road.live.plain()), answer)
            if not answer:
                check_raises(self, NotReady, None, road.climb)
            else:
                ended[self.check_climb(program, plan, memory, road)] += 1
        self.assertGreater(ended[True], 0)
        self.assertGreater(ended[False], 20)

    def test_rest_in_several_calls(self):
        """In each call turn 0 belongs to core 0."""
        for draw, program, plan, memory in programs(384, 40):
            road, book = Road(plan, program, memory), plain_book(program)
            other = Fast(plan, book, memory)
            for turns in [draw.one_of((0, 1, 2, 3, 7, 20)) for _ in range(12)] + [3000]:
                for turn in range(turns):
                    if other.ended():
                        break
                    deed = other.steady_deed(turn % len(book))
                    if deed is not None:
                        other.go(deed)
                check_boolean(self, other.ended(), road.rest(turns))
                self.assertTrue(same(road.live.stand, other.frozen()))
            if other.ended():
                story = road.live.story
                check_boolean(self, True, road.rest(5))
                self.assertEqual(road.live.story, story)
                self.check_climb(program, plan, memory, road)

    def test_turns_at_the_ends_of_the_range(self):
        waiting = ((("set", 1, 1), ("await", 1, 5, 0, "take")),)
        road = Road(PLAN, waiting, (0, 0))
        for wrong in (-1, 20001, 10 ** 30, True, False):
            check_raises(self, InvalidNumber, wrong, road.rest, wrong)
        self.assertEqual(len(road.live), 0)
        check_boolean(self, False, road.rest(0))
        self.assertEqual(len(road.live), 0)
        # Behind an end nothing more is done, whatever letters are on their way.
        road = Road(PLAN, ((), ()), (0, 0))
        road.live.deed(("ask", 0, 1, "own"))
        check_boolean(self, True, road.rest(20))
        self.assertEqual(road.live.story, (("ask", 0, 1, "own"),))
        check_boolean(self, True, Road(PLAN, ((), ()), (0, 0)).rest(0))
        check_boolean(self, True, Road(PLAN, (((("again", 0, ()),)),), (0, 0)).rest(20000))
        check_boolean(self, True, Road(PLAN, PASSING, (0, 0)).rest(20000))

    def test_a_live_that_is_driven_by_hand(self):
        ended = 0
        for draw, program, plan, memory in programs(385, 60):
            road = Road(plan, program, memory)
            live = road.live
            self.assertIs(live, road.live)
            for _ in range(6):
                live.go(draw.below(10 ** 9), draw.below(12))
                if draw.below(3) == 0 and len(live):
                    live.back()
                road.rest(draw.below(20))
                self.assertIs(live, road.live)
            if road.rest(2500):
                ended += 1
                self.check_climb(program, plan, memory, road)
                # Deeds behind the end change nothing but the story, and what is taken back is gone.
                before = road.climb()
                live.go(draw.below(1000), 4)
                self.assertTrue(same(road.climb(), before))
                while len(live) and has_ended(live.book, live.plain()):
                    live.back()
                if len(live):
                    check_raises(self, NotReady, None, road.climb)
        self.assertGreater(ended, 30)

    def test_climb_by_hand(self):
        road = Road(PLAN, PASSING, (0, 0))
        check_raises(self, NotReady, None, road.climb)
        # The second hand reads before the first one puts.
        for deed in [("fetch", 1)] * 2 + [("ask", 1, 1, "read"), ("out", 1), ("in", 1), ("run", 1, 0), ("ask", 1, 0, "read"), ("out", 1), ("in", 1), ("run", 1, 1),
                                          ("retire", 1), ("retire", 1)]:
            road.live.deed(deed)
        check_boolean(self, True, road.rest(500))
        steps, behaviour, viewing, end = road.climb()
        self.assertEqual(behaviour, (((), ()), ((2, -1), (3, -1)), ((0,), (1,), ())))
        self.assertEqual(end, (((0, 1, 0, 0, 0, 0), (0,) * 6), (1, 1)))
        self.assertEqual(steps[:2], [("do", 1), ("do", 1)])
        self.assertEqual(viewing[:2], [("touch", 1, 0), ("touch", 1, 0)])
        again = road.climb()
        steps.clear()
        viewing.clear()
        self.assertTrue(same(again, road.climb()))
        self.assertGreater(len(again[0]), 0)
        self.assertEqual(Road(PLAN, ((),), (7, 8)).climb(), ([], (((),), (), ((), (), ())), [], (((0,) * 6,), (7, 8))))
        self.assertEqual(Road(PLAN, (((("again", 1, ()),)),), (7, 8)).climb()[0], [])

    def test_deeds_of_the_live(self):
        road = Road(PLAN, PASSING, (0, 0))
        check_raises(self, NotLet, ("retire", 0), road.live.deed, ("retire", 0))
        road.live.deed(("fetch", 0))
        self.assertEqual(road.live.story, (("fetch", 0),))
        twin = road.live.twin()
        twin.go(0, 5)
        self.assertEqual(len(road.live), 1)

    def test_errors_in_their_sequence(self):
        for wrong in WRONG + ((6, 4, 2, 2, 4), list(PLAN)):
            check_raises(self, InvalidPlan, wrong, Road, wrong, wrong, wrong)
        for wrong in WRONG + ([()], ((("get", 0, 0, 0, "give"),),)):
            check_raises(self, InvalidProgram, wrong, Road, PLAN, wrong, wrong)
        check_raises(self, TooLong, 1, Road, PLAN, ((), LONG, LONG), None)
        for wrong in WRONG + ((0,), (0, 0, 0), [0, 0], (0, True)):
            check_raises(self, InvalidMemory, wrong, Road, PLAN, PASSING, wrong)


if __name__ == "__main__":
    unittest.main()
