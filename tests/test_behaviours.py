import itertools
import unittest

from touchroad.behaviours import (behaviour_end, behaviour_ends, behaviour_to, broken, events_of, happens_before, is_broken)
from touchroad.errors import InvalidBehaviour, InvalidEnd, InvalidMemory, InvalidPaths, InvalidProgram, NotShort
from touchroad.tongue import interleaved_ends
from tests import reference_programs as told
from tests.helpers import WRONG, Draw, check_boolean, check_examples, check_raises, same, variants

EXAMPLES = """
>>> from touchroad.behaviours import behaviour_end, behaviour_ends, broken, events_of, happens_before, is_broken
>>> passing = ((("set", 1, 1), ("put", 1, 0, 0, "loose"), ("put", 1, 0, 1, "give")), (("get", 1, 0, 1, "take"), ("get", 2, 0, 0, "loose")))
>>> events_of(passing, (0, 0), ((), ()))
[(0, 1, 'put', 0), (0, 2, 'put', 1), (1, 0, 'get', 1), (1, 1, 'get', 0)]
>>> early = (((), ()), ((2, 1), (3, -1)), ((0,), (1,), ()))
>>> [happens_before(passing, (0, 0), early), is_broken(passing, (0, 0), early, ("back", (0, 1, 2, 3), (3, 0))), broken(passing, (0, 0), early)[0]]
[[(0, 1), (0, 2), (0, 3), (1, 2), (1, 3), (2, 3)], True, 'back']
>>> [broken(passing, (0, 0), (((), ()), ((2, 1), (3, 0)), ((0,), (1,), ()))), len(behaviour_ends(passing, (0, 0)))]
[None, 3]
"""

PASSING = ((("set", 1, 1), ("put", 1, 0, 0, "loose"), ("put", 1, 0, 1, "give")), (("get", 1, 0, 1, "take"), ("get", 2, 0, 0, "loose")))
UPDATES = ("set", "put", "get", "swap", "addto", "whole", "whole", "addto", "swap", "get", "sum")
NOT_SHORT = (((("get", 1, 0, 0, "loose"), ("get", 2, 1, 0, "loose")),), ((("swap", 1, 0, 0, 0, "both"), ("put", 0, 1, 0, "give")),),
             ((("if", 0, (("get", 1, 0, 0, "loose"), ("put", 1, 1, 0, "loose")), ()),),))


def small_programs(seed, many, most=150, hands=3, size=4, names=told.STATEMENTS, touches=8, least=2):
    """Drawn short programs with memories, and at most so many behaviours."""
    draw = Draw(seed)
    while many:
        program = told.drawn_program(draw, 1 + draw.below(hands), size, names)
        memory = tuple(draw.one_of((0, 0, 1, 2)) for _ in range(1 + draw.below(2)))
        if not told.is_short(program) or len(told.paths_of(program)) > 16:
            continue
        if not least <= told.how_many(program, memory) <= most:
            continue
        if max(len(told.events_of(program, memory, paths)) for paths in told.paths_of(program)) <= touches:
            many -= 1
            yield draw, program, memory


def what_is_broken(one):
    """All kinds of what breaks a behaviour, in their sequence."""
    kinds = []
    if not one.rule_one():
        kinds.append("round")
    if one.misplaced():
        kinds.append("between")
    if one.backs():
        kinds.append("back")
    if one.rule_one():
        wrong = one.run()[2]
        kinds += [kind for kind in ("branch", "await") if any(w[0] == kind for w in wrong)]
    return kinds


def is_chain(pairs, events):
    return all(pair in pairs for pair in zip(events, events[1:]))


def says_so(one, value):
    """Whether a tuple says what breaks a behaviour, and it is so."""
    def events(part):
        return type(part) is tuple and len(part) > 1 and all(type(i) is int and 0 <= i < len(one.events) for i in part)
    if type(value) is not tuple or not value or type(value[0]) is not str:
        return False
    kind, parts = value[0], value[1:]
    if kind == "round" and len(parts) == 1:
        return (events(parts[0]) and len(set(parts[0])) == len(parts[0])
                and is_chain(one.precedes | one.source, parts[0] + parts[0][:1]))
    if kind == "between" and len(parts) == 1:
        return type(parts[0]) is int and parts[0] in one.misplaced()
    if kind == "back" and len(parts) == 2:
        return (events(parts[0]) and events(parts[1]) and parts[0][0] == parts[1][-1] and parts[0][-1] == parts[1][0]
                and is_chain(one.precedes | one.synchronizes, parts[0]) and is_chain(one.directly, parts[1]))
    if kind in ("branch", "await") and one.rule_one():
        return all(type(part) is int for part in parts) and value in one.run()[2]
    return False


class Events(unittest.TestCase):
    def test_examples(self):
        check_examples(self, EXAMPLES)

    def test_events_of_all_paths(self):
        seen = set()
        for draw, program, memory in small_programs(281, 120, 10 ** 6, size=6, touches=12, least=1):
            for paths in told.paths_of(program):
                found = told.events_of(program, memory, paths)
                seen |= {event[2] for event in found}
                self.assertTrue(same(events_of(program, memory, paths), found), (program, memory, paths))
        self.assertEqual(seen, set(told.TOUCHES))

    def test_cells(self):
        program = ((("set", 1, 65535), ("add", 2, 1, 1), ("get", 3, 1, 65535, "take"), ("whole",), ("await", 0, 2, 3, "loose")), (),
                   (("set", 4, 9), ("put", 0, 4, 0, "loose"), ("swap", 0, 1, 4, 65535, "both"), ("addto", 4, 4, 4, 1, "loose")))
        for cells in (1, 2, 3, 31, 32):
            self.assertEqual(events_of(program, (0,) * cells, ((), (), ())), [
                (0, 2, "get", 131070 % cells), (0, 3, "whole", cells), (0, 4, "await", (65534 + 3) % cells), (2, 1, "put", 9 % cells),
                (2, 2, "swap", (9 + 65535) % cells), (2, 3, "addto", 10 % cells)])
        self.assertEqual(events_of(((), ()), (0,), ((), ())), [])

    def test_errors(self):
        program = ((("if", 0, (("whole",),), ()),),)
        calls = ((events_of, (None,)), (happens_before, (None,)), (broken, (None,)), (is_broken, (None, None)), (behaviour_end, (None,)),
                 (behaviour_ends, ()), (behaviour_to, (None,)))
        for wrong in WRONG + ([()], ((("get", 0, 0, 0, "give"),),)):
            for call, rest in calls:
                check_raises(self, InvalidProgram, wrong, call, wrong, wrong, *rest)
        for wrong in NOT_SHORT:
            for call, rest in calls:
                check_raises(self, NotShort, wrong, call, wrong, None, *rest)
        for wrong in WRONG + ([0], (True,), (65536,), (0,) * 33):
            for call, rest in calls:
                check_raises(self, InvalidMemory, wrong, call, program, wrong, *rest)
        for wrong in WRONG + (((),), ((1,),), ([True],), ((True, True),), ((True,), ()), ((True,),) * 2):
            check_raises(self, InvalidPaths, wrong, events_of, program, (0,), wrong)
        self.assertEqual(events_of(program=program, memory=(0,), paths=((True,),)), [(0, 1, "whole", 1)])
        events_of(program, (0,), ((True,),)).clear()
        self.assertEqual(len(events_of(program, (0,), ((True,),))), 1)


class Rules(unittest.TestCase):
    def test_against_a_second_telling(self):
        kinds = {}
        for draw, program, memory in itertools.chain(small_programs(282, 60), small_programs(283, 40, names=UPDATES)):
            ends = set()
            for behaviour in told.all_behaviours(program, memory):
                one = told.Told(program, memory, behaviour)
                self.assertTrue(same(happens_before(program, memory, behaviour), sorted(one.happens)))
                kind = what_is_broken(one)
                kinds[tuple(kind)] = kinds.get(tuple(kind), 0) + 1
                found = broken(program, memory, behaviour)
                self.assertEqual(found is None, one.consistent())
                if kind:
                    self.assertEqual(found[0], kind[0], (program, memory, behaviour))
                    self.assertTrue(says_so(one, found))
                    check_boolean(self, True, is_broken(program, memory, behaviour, found))
                    check_raises(self, InvalidBehaviour, behaviour, behaviour_end, program, memory, behaviour)
                else:
                    ends.add(one.end())
                    self.assertTrue(same(behaviour_end(program, memory, behaviour), one.end()))
            self.assertTrue(same(behaviour_ends(program, memory), sorted(ends)), (program, memory))
            self.assertTrue(set(interleaved_ends(program, memory)) <= ends)
            self.check_ends(draw, program, memory, sorted(ends))
        for kind in ((), ("between",), ("back",), ("branch",), ("await",), ("round", "between"), ("between", "back"),
                     ("round", "back"), ("round", "between", "back")):
            self.assertGreater(kinds.get(kind, 0), 2, (kind, kinds))

    def check_ends(self, draw, program, memory, ends):
        for end in ends:
            behaviour = behaviour_to(program, memory, end)
            self.assertIsNone(broken(program, memory, behaviour))
            self.assertEqual(behaviour_end(program, memory, behaviour), end)
            for other in ((end[0], tuple((word + 1) % 65536 for word in end[1])), (end[0][1:] + end[0][:1], end[1]),
                          (tuple((words[:2] + (draw.below(3),) + words[3:]) for words in end[0]), end[1])):
                if other not in ends:
                    self.assertIsNone(behaviour_to(program, memory, other))

    def test_all_that_is_broken(self):
        """is_broken of what is so, of what is not, and of one part wrong."""
        counts = {}
        for draw, program, memory in itertools.chain(small_programs(284, 30, 60), small_programs(285, 30, 60, names=UPDATES)):
            behaviours = told.all_behaviours(program, memory)
            for behaviour in behaviours[:: max(1, len(behaviours) // 12)]:
                one = told.Told(program, memory, behaviour)
                many = range(len(one.events))
                tried = [("between", i) for i in range(-1, len(one.events) + 1)] + [("await", i) for i in range(-1, len(one.events) + 1)]
                tried += [("branch", h, at) for h in range(-1, len(program) + 1) for at in range(-1, 6)]
                tried += [("round", pair) for pair in itertools.product(many, repeat=2)]
                ways = [way for length in (2, 3) for way in itertools.product(many, repeat=length)]
                tried += [("back", draw.one_of(ways), draw.one_of(ways)) for _ in range(40) if ways]
                found = broken(program, memory, behaviour)
                if found is not None:
                    tried += list(variants(found))[:: 1 + draw.below(4)]
                    if found[0] in ("round", "back"):
                        tried += [found[:1] + tuple(part[1:] + part[:1] for part in found[1:]),
                                  found[:1] + tuple(part[::-1] for part in found[1:]), found[:1] + found[:0:-1],
                                  found[:1] + tuple(part + part for part in found[1:])]
                for value in tried:
                    good = says_so(one, value)
                    key = (value[0], good) if type(value) is tuple and value and type(value[0]) is str else None
                    counts[key] = counts.get(key, 0) + 1
                    check_boolean(self, good, is_broken(program, memory, behaviour, value))
        for kind in ("round", "between", "back", "branch", "await"):
            for good in (True, False):
                self.assertGreater(counts.get((kind, good), 0), 3, (kind, good))

    def test_other_objects(self):
        behaviour = (((), ()), ((2, 1), (3, -1)), ((0,), (1,), ()))
        good = ("back", (0, 1, 2, 3), (3, 0))
        check_boolean(self, True, is_broken(PASSING, (0, 0), behaviour, good))
        for wrong in WRONG + (("back",), ("back", (0, 3), (3, 0), ()), ("back", (0,), (0,)), ("back", [0, 1, 2, 3], (3, 0)), ("round", ()),
                              ("round", (0, 0)), ("round", (0,)), ("between",), ("between", 0, 1), ("between", None), ("branch", 0), ("await",),
                              ("await", True), ("branch", False, False), ("circle", (3, 0)), list(good), ("back", (0, 1, 2, 3), (3, False)),
                              ("back", (False, 1, 2, 3), (3, 0))):
            check_boolean(self, False, is_broken(PASSING, (0, 0), behaviour, wrong))
        # A way may repeat events.
        crossed = ((("put", 0, 0, 0, "loose"), ("get", 1, 0, 0, "loose")),)
        old = (((),), ((1, -1),), ((0,), ()))
        check_boolean(self, True, is_broken(crossed, (0,), old, ("back", (0, 1), (1, 0))))
        check_boolean(self, True, is_broken(crossed, (0,), (((),), ((1, -1),), ((0,), ())), broken(crossed, (0,), old)))

    def test_takes_and_gives(self):
        put, get = ("put", 0, 0, 1), ("get", 1, 0, 1)
        for give in ("loose", "give"):
            for take in ("loose", "take"):
                program = ((("put", 0, 0, 0, "loose"), put + (give,)), (get + (take,), ("get", 2, 0, 0, "loose")))
                behaviour = (((), ()), ((2, 1), (3, -1)), ((0,), (1,), ()))
                joined = give == "give" and take == "take"
                self.assertEqual((1, 2) in happens_before(program, (5, 5), behaviour), joined)
                self.assertEqual(broken(program, (5, 5), behaviour), ("back", (0, 1, 2, 3), (3, 0)) if joined else None)
        # A chain of updates carries what was given; a put in between ends it.
        for middle, joined in (((("swap", 1, 0, 0, 1, "loose"),), True), ((("addto", 1, 0, 0, 1, "loose"),), True),
                               ((("put", 0, 0, 1, "loose"),), False)):
            program = ((("put", 0, 0, 0, "loose"), put + ("give",)), middle, (get + ("take",), ("get", 2, 0, 0, "loose")))
            source = () if middle[0][0] == "put" else ((2, 1),)
            behaviour = (((), (), ()), source + ((3, 2), (4, -1)), ((0,), (1, 2), ()))
            self.assertEqual((1, 3) in happens_before(program, (5, 5), behaviour), joined)
            self.assertEqual(broken(program, (5, 5), behaviour) is None, not joined)
        # Two updates that read each other carry each other.
        swaps = ((("swap", 1, 0, 0, 0, "both"),), (("swap", 1, 0, 0, 0, "both"),))
        behaviour = (((), ()), ((0, 1), (1, 0)), ((0, 1), ()))
        self.assertEqual(happens_before(swaps, (0,), behaviour), [(0, 0), (0, 1), (1, 0), (1, 1)])
        self.assertEqual(broken(swaps, (0,), behaviour)[0], "round")

    def test_wholes(self):
        program = ((("set", 1, 1), ("put", 1, 0, 0, "loose"), ("whole",), ("get", 2, 0, 1, "loose")),
                   (("set", 1, 1), ("put", 1, 0, 1, "loose"), ("whole",), ("get", 2, 0, 0, "loose")))
        self.assertEqual([end[0][0][2] + end[0][1][2] for end in behaviour_ends(program, (0, 0))].count(0), 0)
        without = tuple(tuple(s for s in hand if s != ("whole",)) for hand in program)
        self.assertEqual(len(behaviour_ends(without, (0, 0))), 4)
        self.assertEqual(behaviour_ends(program, (0, 0)), interleaved_ends(program, (0, 0)))

    def test_a_branch_or_an_await_where_words_are_undefined(self):
        """Two hands hand a word round and round: rule (1) fails, so no branch and no await is accepted."""
        program = ((("get", 1, 0, 0, "loose"), ("if", 1, (), ()), ("put", 1, 0, 1, "loose")),
                   (("get", 1, 0, 1, "loose"), ("await", 5, 0, 1, "loose"), ("put", 1, 0, 0, "loose")))
        found = events_of(program, (0, 0), ((True,), ()))
        self.assertEqual(len(found), 5)
        behaviour = (((True,), ()), ((0, 4), (2, 1), (3, 1)), ((4,), (1,), ()))
        self.assertEqual(broken(program, (0, 0), behaviour)[0], "round")
        for value in (("branch", 0, 1), ("await", 3), ("await", 2)):
            check_boolean(self, False, is_broken(program, (0, 0), behaviour, value))
        fine = (((True,), ()), ((0, -1), (2, 1), (3, 1)), ((4,), (1,), ()))
        self.assertEqual(broken(program, (0, 0), fine), ("branch", 0, 1))
        check_boolean(self, True, is_broken(program, (0, 0), fine, ("branch", 0, 1)))
        check_boolean(self, False, is_broken(program, (0, 0), fine, ("await", 3)))
        check_boolean(self, True, is_broken(program, (5, 5), fine, ("await", 3)))
        for name in ("wait", "word", "cell", "circle", "Await", "", "branch"):
            check_boolean(self, False, is_broken(program, (5, 5), fine, (name, 3)))
            check_boolean(self, False, is_broken(program, (0, 0), fine, (name + "x", 0, 1)))
        self.assertIsNone(broken(program, (5, 0), (((True,), ()), ((0, -1), (2, -1), (3, -1)), ((4,), (1,), ()))))

    def test_a_round_alone(self):
        program = ((("get", 1, 0, 0, "loose"), ("put", 1, 0, 1, "loose")), (("get", 1, 0, 1, "loose"), ("put", 1, 0, 0, "loose")))
        behaviour = (((), ()), ((0, 3), (2, 1)), ((3,), (1,), ()))
        one = told.Told(program, (0, 0), behaviour)
        self.assertEqual(what_is_broken(one), ["round"])
        found = broken(program, (0, 0), behaviour)
        self.assertTrue(says_so(one, found))
        for ring in ((0, 1, 2, 3), (1, 2, 3, 0), (3, 0, 1, 2)):
            check_boolean(self, True, is_broken(program, (0, 0), behaviour, ("round", ring)))
        for ring in ((3, 2, 1, 0), (0, 1, 2), (0, 1, 2, 3, 0), (0, 1, 2, 3, 0, 1, 2, 3), (0, 1), (0, 3)):
            check_boolean(self, False, is_broken(program, (0, 0), behaviour, ("round", ring)))


class Forms(unittest.TestCase):
    def test_no_behaviours(self):
        program = PASSING + ((("swap", 1, 0, 0, 0, "both"), ("whole",)),)
        good = (((), (), ()), ((2, 1), (3, 4), (4, 0), (5, -1)), ((0, 4), (1,), (5,)))
        for value in (good, good[:2] + (((4, 0), (1,), (5,)),), (((), (), ()), ((2, -1), (3, 0), (4, -1), (5, -1)), good[2])):
            broken(program, (0, 0), value)
        wrong = [v for v in variants(good) if not self.is_form(program, (0, 0), v)]
        reads, orders = good[1:]
        for other in ((reads[::-1], orders), (reads[:-1], orders), (reads + ((5, -1),), orders), (((2, 0),) + reads[1:], orders),
                      (((2, 2),) + reads[1:], orders), (reads[:2] + ((4, 4),) + reads[3:], orders), (reads, orders[:2]), (reads, orders + ((),)),
                      (reads, ((0,), (1,), (5,))), (reads, ((0, 4, 0), (1,), (5,))), (reads, ((0, 0), (1,), (5,))), (reads, ((1, 4), (0,), (5,))),
                      (reads, ((0, 4), (1,), ())), (((0, -1),) + reads, orders), (((2, 1), (3, 4), (4, 0), (5, 5)), orders),
                      (((2, True), (3, 4), (4, 0), (5, -1)), orders), (list(reads), orders), (reads, list(orders)), (reads, ([0, 4], (1,), (5,)))):
            wrong.append((good[0],) + other)
        wrong += [(((), ()), reads, orders), (((), (), (True,)), reads, orders), ([(), (), ()], reads, orders), good + ((),), good[1:]]
        for value in list(WRONG) + wrong:
            for call, rest in ((happens_before, ()), (broken, ()), (is_broken, (None,)), (behaviour_end, ())):
                check_raises(self, InvalidBehaviour, value, call, program, (0, 0), value, *rest)

    def is_form(self, program, memory, value):
        try:
            return any(same(value, behaviour) for behaviour in told.behaviours_on(program, memory, ((), (), ())))
        except Exception:
            return False

    def test_paths_of_behaviours(self):
        program = ((("if", 0, (("whole",),), (("get", 1, 0, 0, "take"),)),),)
        yes, no = (((True,),), ((0, -1),), ((), (0,))), (((False,),), ((0, -1),), ((), ()))
        self.assertEqual(broken(program, (4,), yes), ("branch", 0, 0))
        self.assertIsNone(broken(program, (4,), no))
        self.assertEqual(behaviour_end(program, (4,), no), (((0, 4, 0, 0, 0, 0),), (4,)))
        check_raises(self, InvalidBehaviour, yes, behaviour_end, program, (4,), yes)
        for wrong in ((((False,),),) + yes[1:], (((True,),),) + no[1:], (((1,),),) + yes[1:], (((0,),),) + no[1:], (((),),) + no[1:]):
            check_raises(self, InvalidBehaviour, wrong, broken, program, (4,), wrong)

    def test_ends(self):
        end = (((0, 1, 0, 0, 0, 0), (0, 1, 1, 0, 0, 0)), (1, 1))
        self.assertEqual(behaviour_end(PASSING, (0, 0), behaviour_to(program=PASSING, memory=(0, 0), end=end)), end)
        for wrong in list(WRONG) + [v for v in variants(end) if not self.is_end(v)] + [
                (end[0], (1,)), (end[0], (1, 1, 1)), (end[0][:1], (1, 1)), (end[0] + end[0][:1], (1, 1)), (((0,) * 8,) * 2, (1, 1)), end + ((),)]:
            check_raises(self, InvalidEnd, wrong, behaviour_to, PASSING, (0, 0), wrong)

    def is_end(self, value):
        def words(part, many):
            return type(part) is tuple and len(part) == many and all(type(w) is int and 0 <= w < 65536 for w in part)
        return (type(value) is tuple and len(value) == 2 and type(value[0]) is tuple and len(value[0]) == 2
                and all(words(part, 6) for part in value[0]) and words(value[1], 2))

    def test_names_and_new_lists(self):
        behaviour = (((), ()), ((2, 1), (3, 0)), ((0,), (1,), ()))
        self.assertIsNone(broken(program=PASSING, memory=(0, 0), behaviour=behaviour))
        check_boolean(self, False, is_broken(program=PASSING, memory=(0, 0), behaviour=behaviour, value=None))
        happens_before(program=PASSING, memory=(0, 0), behaviour=behaviour).clear()
        self.assertEqual(len(happens_before(PASSING, (0, 0), behaviour)), 6)
        end = behaviour_end(program=PASSING, memory=(0, 0), behaviour=behaviour)
        self.assertEqual(end, (((0, 1, 0, 0, 0, 0), (0, 1, 1, 0, 0, 0)), (1, 1)))
        behaviour_ends(program=PASSING, memory=(0, 0)).clear()
        self.assertEqual(len(behaviour_ends(PASSING, (0, 0))), 3)
        self.assertEqual(behaviour_ends(((), ()), (3,)), [(((0,) * 6,) * 2, (3,))])
        self.assertEqual(behaviour_to(((),), (3,), (((0,) * 6,), (3,))), (((),), (), ((), ())))
        # An await that never comes has no behaviour.
        self.assertEqual(behaviour_ends(((("await", 0, 0, 0, "take"),),), (3,)), [])


if __name__ == "__main__":
    unittest.main()
