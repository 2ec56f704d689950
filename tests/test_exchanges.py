import itertools
import unittest

from touchroad.errors import InvalidMode, InvalidNumber, InvalidProgram, InvalidRewrite, TooMany
from touchroad.exchanges import all_rewritten, can_exchange, counterexample, counterexample_holds, rewrites, rewritten
from touchroad.texts import show_program
from touchroad.tongue import is_program
from touchroad.viewing import viewing_ends
from tests import reference_programs as told
from tests.helpers import WRONG, Draw, Odd, check_boolean, check_examples, check_raises, same, shares, variants
from tests.reference import is_int
from tests.test_behaviours import NOT_SHORT, PASSING
from tests.test_road import consistent_ends

EXAMPLES = """
>>> from touchroad.exchanges import can_exchange, counterexample_holds, rewrites, rewritten
>>> short = ((("set", 1, 7), ("put", 1, 0, 0, "loose"), ("get", 2, 0, 1, "take"), ("get", 3, 0, 1, "loose")),)
>>> rewrites(short, 2)
[(0, 1, 'exchange'), (0, 2, 'join')]
>>> [rewritten(short, 2, (0, 1, "exchange"))[0][1], rewritten(short, 2, (0, 2, "join"))[0][3], rewrites(short, 1)]
[('get', 2, 0, 1, 'take'), ('and', 3, 2, 2), [(0, 1, 'join'), (0, 2, 'join')]]
>>> [can_exchange(("put", 1, 0, 0, "give"), ("get", 2, 0, 1, "take")), can_exchange(("get", 2, 0, 1, "take"), ("get", 3, 0, 0, "loose"))]
[True, False]
>>> passing = ((("set", 1, 1), ("put", 1, 0, 0, "loose"), ("put", 1, 0, 1, "give")), (("get", 1, 0, 1, "take"), ("get", 2, 0, 0, "loose")))
>>> counterexample_holds(("get", "take"), ("get", "loose"), (passing, 1, 0, (((0, 1, 0, 0, 0, 0), (0, 1, 0, 0, 0, 0)), (1, 1, 0, 0))))
True
"""

MODES = told.MODES
KINDS = tuple((name, mode) for name in ("get", "put", "swap", "addto") for mode in MODES[name]) + (("whole",),)
WITH_AWAITS = KINDS + (("await", "loose"), ("await", "take"))
TAKES, GIVES = ("take", "both"), ("give", "both")
ZEROS = (0, 0, 0, 0)


def touch(kind, v=2, b=1, a=5, k=0):
    name = kind[0]
    if name == "whole":
        return ("whole",)
    return (name,) + {"get": (v,), "put": (b,), "await": (b,)}.get(name, (v, b)) + (a, k, kind[1])


# The sound cases of the document, one by one.
SOUND = {(x, y) for x in WITH_AWAITS for y in WITH_AWAITS if (
    (x[0] == "put" and y[0] in ("get", "await"))
    or (x[0] == "put" and y[0] in ("put", "swap", "addto") and y[1] not in GIVES)
    or (x[0] in ("get", "await") and x[1] not in TAKES and y[0] in ("get", "await"))
    or (x[0] in ("swap", "addto") and x[1] not in TAKES and y[0] in ("get", "await")))}


def parts(statement):
    """The variables that a touch uses and sets."""
    if statement == ("whole",):
        return set(), set()
    v = {statement[1]} if statement[0] in ("get", "swap", "addto") else set()
    return set(statement[1 + len(v):-2]), v


def all_set(statements):
    found = set()
    for s in statements:
        if s[0] in ("if", "again"):
            for body in s[2:]:
                found |= all_set(body)
        elif s[0] in ("set", "get", "swap", "addto") + told.SUMS:
            found.add(s[1])
    return found


def are_neighbours(x, y):
    if x[0] not in told.TOUCHES or y[0] not in told.TOUCHES:
        return False
    (used_x, set_x), (used_y, set_y) = parts(x), parts(y)
    return not set_x & (used_y | set_y) and not set_y & used_x


def cell_in(hand, x, cells):
    return None if x == ("whole",) or x[-3] in all_set(hand) else x[-2] % cells


def different(hand, x, y, cells):
    wholes = [x, y].count(("whole",))
    if wholes:
        return wholes == 1
    return None not in (cell_in(hand, x, cells), cell_in(hand, y, cells)) and cell_in(hand, x, cells) != cell_in(hand, y, cells)


def kind_of(x):
    return x if x == ("whole",) else (x[0], x[-1])


def joined(x, y):
    """What two neighbours of one cell are joined to, None if nothing."""
    if x[0] == "put":
        return (y,) if y[0] == "put" else (x, ("and", y[1], x[1], x[1])) if y[0] == "get" else None
    if y[0] != "get" or x[0] not in ("get", "swap", "addto") or (x[-1] not in TAKES and y[-1] == "take"):
        return None
    if x[0] == "get":
        return x, ("and", y[1], x[1], x[1])
    if x[1] == x[2]:
        return None
    return x, ("and", y[1], x[2], x[2]) if x[0] == "swap" else ("add", y[1], x[1], x[2])


def told_rewrites(program, cells):
    """A dict of all rewrites of a program, with the programs after them."""
    found = {}
    for h, hand in enumerate(program):
        for at, (x, y) in enumerate(zip(hand, hand[1:])):
            if not are_neighbours(x, y):
                continue
            made = None
            if different(hand, x, y, cells) and (kind_of(x), kind_of(y)) in SOUND:
                name, made = "exchange", (y, x)
            elif None not in (cell_in(hand, x, cells), cell_in(hand, y, cells)) and cell_in(hand, x, cells) == cell_in(hand, y, cells):
                name, made = "join", joined(x, y)
            if made:
                found[h, at, name] = program[:h] + (hand[:at] + made + hand[at + 2:],) + program[h + 1:]
    return found


def drawn_hand(draw, many, cells):
    made, mixed = [], draw.below(2)
    for at in range(many):
        kind = draw.one_of(WITH_AWAITS if mixed else WITH_AWAITS[:7] + (("get", "loose"), ("put", "loose")) * 4)
        v, b, a = draw.one_of((1, 2, 3, 4)) if mixed else 1 + at % 4, draw.one_of((0, 1, 1, 2)) if mixed else 0, draw.one_of((5, 5, 5, 0, 3)) if mixed else 5
        made.append(touch(kind, v, b, a, draw.below(cells + 1)))
        if mixed and draw.below(10) == 0:
            made.append(draw.one_of((("set", 1, 1), ("add", 3, 3, 3), ("if", 1, (("set", 5, 1),), ()), ("again", 0, (("get", 0, 1, 2, "take"),)), ("again", 2, made[-2:]))))
            if made[-1][0] == "again":
                made[-1] = made[-1][:2] + (tuple(s for s in made[-1][2] if s[0] not in ("if", "again")),)
    return ((("set", 1, 1),) if draw.below(2) else ()) + tuple(made)


def programs(seed, many, hands=2, size=4, cells=2):
    draw = Draw(seed)
    for _ in range(many):
        yield draw, tuple(drawn_hand(draw, 1 + draw.below(size), cells) for _ in range(1 + draw.below(hands)))


class Sound(unittest.TestCase):
    def test_examples(self):
        check_examples(self, EXAMPLES)

    def test_each_pair(self):
        for x, y in itertools.product(WITH_AWAITS, repeat=2):
            for one, other in ((touch(x), touch(y, 3, 0, 4, 7)), (touch(x, 0, 0, 0, 0), touch(y, 0, 0, 0, 0)), (touch(x, 1, 2, 3, 4), touch(y, 3, 1, 1, 4))):
                check_boolean(self, (x, y) in SOUND, can_exchange(one=one, other=other))
        self.assertEqual(len(SOUND), 2 * 4 + 2 * (1 + 2 + 2) + 2 * 4 + 4 * 4)

    def test_each_pair_in_a_program(self):
        for x, y in itertools.product(WITH_AWAITS, repeat=2):
            hand = (("set", 1, 1), touch(x, 2, 1, 5, 0), touch(y, 3, 1, 5, 1))
            expected = [(0, 1, "exchange")] if (x, y) in SOUND else []
            self.assertTrue(same(rewrites((hand,), 2), expected))
            if expected:
                self.assertTrue(same(rewritten((hand,), 2, (0, 1, "exchange")), ((hand[0], hand[2], hand[1]),)))
            # With one cell the two touch the same one.
            after = joined(hand[1], hand[2]) if "whole" not in (x[0], y[0]) else None
            self.assertTrue(same(rewrites((hand,), 1), [(0, 1, "join")] if after else []))
            if after:
                self.assertTrue(same(rewritten((hand,), 1, (0, 1, "join")), (hand[:1] + after,)))


class Rewrites(unittest.TestCase):
    def test_reasons_not_to_be_neighbours(self):
        get, put = ("get", 2, 5, 0, "loose"), ("put", 1, 5, 0, "loose")
        for x, y, cells, expected in (
                (put, ("get", 2, 5, 1, "loose"), 2, ["exchange"]), (put, ("get", 2, 5, 2, "loose"), 2, ["join"]), (put, ("get", 2, 5, 65535, "loose"), 32, ["exchange"]),
                (put, ("get", 1, 5, 1, "loose"), 2, []), (put, ("get", 5, 5, 1, "loose"), 2, []), (put, ("get", 5, 4, 1, "loose"), 2, []),
                (get, ("get", 2, 5, 1, "loose"), 2, []), (get, ("get", 3, 2, 1, "loose"), 2, []), (get, ("await", 2, 5, 1, "loose"), 2, []),
                (get, ("await", 1, 2, 1, "loose"), 2, []), (get, ("await", 1, 5, 1, "loose"), 2, ["exchange"]), (get, ("put", 2, 5, 1, "loose"), 2, []),
                (("addto", 2, 1, 5, 0, "loose"), ("get", 1, 5, 1, "loose"), 2, []), (("addto", 2, 1, 5, 0, "loose"), ("get", 3, 5, 1, "loose"), 2, ["exchange"]),
                (("addto", 2, 2, 5, 0, "loose"), ("get", 3, 5, 1, "loose"), 2, ["exchange"]), (("addto", 2, 2, 5, 0, "loose"), ("get", 3, 5, 0, "loose"), 2, []),
                (("addto", 2, 1, 5, 0, "loose"), ("get", 3, 5, 0, "loose"), 2, ["join"]), (("swap", 2, 2, 5, 0, "take"), ("get", 3, 5, 0, "take"), 2, []),
                (("put", 1, 5, 0, "loose"), ("swap", 1, 3, 5, 1, "loose"), 2, []), (("put", 1, 5, 0, "loose"), ("swap", 2, 1, 5, 1, "take"), 2, ["exchange"]),
                # The number of a cell is no variable.
                (("put", 0, 5, 1, "loose"), ("get", 1, 5, 0, "loose"), 4, ["exchange"]), (("get", 2, 5, 3, "loose"), ("get", 3, 5, 0, "loose"), 4, ["exchange"]),
                (("get", 2, 5, 3, "loose"), ("get", 3, 5, 2, "loose"), 4, ["exchange"]), (("get", 2, 5, 0, "loose"), ("await", 1, 5, 2, "loose"), 4, ["exchange"]),
                (("addto", 2, 0, 5, 3, "give"), ("get", 3, 5, 2, "loose"), 4, ["exchange"]), (("swap", 2, 0, 5, 0, "loose"), ("await", 1, 5, 2, "take"), 4, ["exchange"]),
                (("put", 0, 5, 3, "give"), ("addto", 3, 1, 5, 2, "take"), 4, ["exchange"]),
                (("whole",), get, 2, []), (put, ("whole",), 2, []), (("whole",), ("whole",), 2, []), (put, ("set", 3, 3), 2, []), (("set", 3, 3), put, 2, []),
                (put, ("if", 3, (), ()), 2, []), (put, ("again", 1, (put,)), 2, [])):
            self.assertEqual([name for _, _, name in rewrites(((x, y),), cells)], expected, (x, y))
            self.assertEqual([name for _, _, name in told_rewrites(((x, y),), cells)], expected)

    def test_cells_that_are_not_fixed(self):
        pair = (("put", 1, 4, 0, "loose"), ("get", 2, 5, 1, "loose"))
        for other, cells, expected in ((("set", 3, 1), 2, 1), (("set", 4, 1), 2, 0), (("set", 5, 1), 2, 0), (("set", 4, 0), 2, 0), (("get", 4, 3, 0, "loose"), 2, 0),
                                       (("swap", 5, 3, 3, 0, "loose"), 2, 0), (("addto", 5, 3, 3, 0, "loose"), 2, 0), (("xor", 4, 3, 3), 2, 0), (("put", 4, 5, 0, "loose"), 2, 1),
                                       (("await", 5, 4, 0, "take"), 2, 1), (("if", 4, (), ()), 2, 1), (("if", 3, (("set", 4, 1),), ()), 2, 0),
                                       (("if", 3, (), (("again", 0, (("if", 1, (), (("below", 5, 3, 3),)),)),)), 2, 0), (("again", 0, (("set", 4, 1),)), 2, 0)):
            for hand in (pair + (("set", 3, 3), other), (other, ("set", 3, 3)) + pair):
                at = hand.index(pair[0])
                found = [name for _, index, name in rewrites((hand,), cells) if index == at]
                self.assertEqual(found, ["exchange"] * expected, hand)
                self.assertEqual([name for _, index, name in rewrites((hand,), 1) if index == at], ["join"] * expected, hand)
            # Another hand does not matter.
            self.assertIn((0, 0, "exchange"), rewrites((pair, (other,)), cells))

    def test_against_a_second_telling(self):
        names, many = set(), 0
        for draw, program in programs(361, 600, size=6):
            cells = draw.one_of((1, 2, 2, 3, 32))
            found = told_rewrites(program, cells)
            self.assertTrue(same(rewrites(program, cells), sorted(found)), program)
            many = max(many, len(found))
            for rewrite, after in found.items():
                names.add((rewrite[2],) + tuple(s[0] for s in program[rewrite[0]][rewrite[1]:][:2]))
                self.assertTrue(same(rewritten(program=program, cells=cells, rewrite=rewrite), after))
                self.assertTrue(is_program(after))
        self.assertGreater(many, 4)
        self.assertTrue({("join", x, y) for x, y in (("put", "get"), ("put", "put"), ("get", "get"), ("swap", "get"), ("addto", "get"))} <= names)
        self.assertTrue({("exchange", x, y) for x in ("put", "get", "await", "swap", "addto") for y in ("get", "await")} <= names)

    def test_what_is_no_rewrite(self):
        short = ((("set", 1, 7), ("put", 1, 0, 0, "loose"), ("get", 2, 0, 1, "take"), ("get", 3, 0, 1, "loose")),)
        for wrong in WRONG + ((0, 1, "join"), (0, 2, "exchange"), (1, 1, "exchange"), (0, 0, "exchange"), (0, 3, "join"), (-1, 1, "exchange"), (0, -3, "exchange"),
                              [0, 1, "exchange"], (0, 1, "Exchange"), (0, 1), (0, 1, "exchange", 0), (False, 1, "exchange"), (0, True, "exchange"), (0, 1, b"exchange"),
                              (0, 1, Odd()), (Odd(), 1, "exchange"), (0, Odd(), "exchange"), (0, 1, ("exchange",))):
            check_raises(self, InvalidRewrite, wrong, rewritten, short, 2, wrong)
        for other in variants((0, 1, "exchange")):
            check_raises(self, InvalidRewrite, other, rewritten, short, 2, other)
        check_raises(self, InvalidRewrite, (0, 1, "exchange"), rewritten, short, 1, (0, 1, "exchange"))

    def test_errors_in_their_sequence(self):
        for wrong in WRONG + ([()], ((("get", 0, 0, 0, "give"),),)):
            check_raises(self, InvalidProgram, wrong, rewrites, wrong, 0)
            check_raises(self, InvalidProgram, wrong, rewritten, wrong, 0, None)
            check_raises(self, InvalidProgram, wrong, all_rewritten, wrong, 0, 0)
        for wrong in (0, -1, 33, 10 ** 20, True):
            check_raises(self, InvalidNumber, wrong, rewrites, PASSING, wrong)
            check_raises(self, InvalidNumber, wrong, rewritten, PASSING, wrong, None)
            check_raises(self, InvalidNumber, wrong, all_rewritten, PASSING, wrong, 0)
        for wrong in (0, -1, 501, 10 ** 20, True):
            check_raises(self, InvalidNumber, wrong, all_rewritten, PASSING, 32, wrong)
        self.assertEqual(rewrites(program=((), ()), cells=32), [])

    def test_all_rewritten(self):
        most = 0
        for draw, program in programs(362, 200, size=6):
            cells = draw.one_of((1, 2, 3))
            found, waiting = {show_program(program): program}, [program]
            while waiting:
                for after in told_rewrites(waiting.pop(), cells).values():
                    if show_program(after) not in found:
                        found[show_program(after)] = after
                        waiting.append(after)
            expected = [found[text] for text in sorted(found)]
            most = max(most, len(expected))
            self.assertTrue(same(all_rewritten(program=program, cells=cells, most=500), expected))
            self.assertTrue(same(all_rewritten(program, cells, len(expected)), expected))
            if len(expected) > 1:
                check_raises(self, TooMany, len(expected) - 1, all_rewritten, program, cells, len(expected) - 1)
        self.assertGreater(most, 8)

    def test_many_programs(self):
        # Six gets of different cells may come in any sequence: 720 programs.
        gets = tuple(("get", v, 5, k, "loose") for v, k in zip((0, 1, 2, 3, 4), range(5)))
        self.assertEqual(len(all_rewritten((gets,), 32, 120)), 120)
        check_raises(self, TooMany, 119, all_rewritten, (gets,), 32, 119)
        awaits = tuple(("await", 1, 5, k, "loose") for k in range(6))
        check_raises(self, TooMany, 500, all_rewritten, (awaits,), 32, 500)
        deep = (("if", 1, (("if", 2, (("if", 3, (("if", 4, (), ()),), ()),), ()),), ()),) + gets[:3]
        self.assertEqual(len(all_rewritten((deep,), 32, 6)), 6)
        self.assertEqual(all_rewritten(((), ()), 1, 1), [((), ())])

    def test_u1(self):
        """No rewrite adds a program end."""
        draw, tried, fewer = Draw(363), 0, 0
        while tried < 220:
            program = tuple(drawn_hand(draw, 1 + draw.below(4), 2) for _ in range(2 + draw.below(2)))
            if draw.below(3):
                program = tuple((("set", 1, h + 1),) + hand for h, hand in enumerate(program))
            cells = draw.one_of((1, 2, 2))
            found = told_rewrites(program, cells)
            if not found or any(s[0] == "await" for hand in program for s in hand) and draw.below(3) or sum(map(len, program)) > 12:
                continue
            memory = tuple(draw.below(2) for _ in range(cells))
            before = set(viewing_ends(program, memory))
            tried += 1
            for rewrite, after in found.items():
                now = set(viewing_ends(rewritten(program, cells, rewrite), memory))
                self.assertTrue(now <= before, (program, memory, rewrite))
                fewer += now < before
        self.assertGreater(fewer, 10)


class Counterexamples(unittest.TestCase):
    def told_holds(self, one, other, value):
        """Whether a value is a counterexample, by all behaviours told again."""
        if type(value) is not tuple or len(value) != 4 or not told.is_program(value[0]):
            return False
        program, h, at, end = value
        if len(told.paths_of(program)) > 64 or not told.is_short(program):
            return False
        for paths in told.paths_of(program):
            found = told.events_of(program, ZEROS, paths)
            writes = [e[3] for e in found if e[2] in told.WRITES]
            if len(found) > 8 or any(writes.count(cell) > 4 for cell in writes):
                return False
        if not is_int(h, 0, len(program) - 1) or not is_int(at, 0, len(program[h]) - 2):
            return False
        x, y = program[h][at:at + 2]
        if not are_neighbours(x, y) or not different(program[h], x, y, 4) or (kind_of(x), kind_of(y)) != (one, other):
            return False
        if type(end) is not tuple or len(end) != 2 or type(end[0]) is not tuple or len(end[0]) != len(program):
            return False
        if not all(type(words) is tuple and len(words) == size and all(is_int(w, 0, 65535) for w in words)
                   for words, size in [(words, 6) for words in end[0]] + [(end[1], 4)]):
            return False
        exchanged = program[:h] + (program[h][:at] + (y, x) + program[h][at + 2:],) + program[h + 1:]
        return end not in consistent_ends(program, ZEROS) and end in consistent_ends(exchanged, ZEROS)

    def test_of_each_pair(self):
        """U2: there is a counterexample for each pair whose exchange is not sound."""
        for one, other in itertools.product(KINDS, repeat=2):
            if one == other == ("whole",):
                continue
            value = counterexample(one=one, other=other)
            if (one, other) in SOUND:
                self.assertIsNone(value)
                continue
            self.assertTrue(self.told_holds(one, other, value), (one, other, value))
            check_boolean(self, True, counterexample_holds(one=one, other=other, value=value))

    def test_with_one_part_wrong(self):
        draw, good = Draw(364), 0
        pairs = [pair for pair in itertools.product(KINDS, repeat=2) if pair not in SOUND and pair[0] + pair[1] != ("whole", "whole")]
        for one, other in pairs:
            value = counterexample(one, other)
            program, h, at, end = value
            wrong_end = (end[0], end[1][:3] + (1,))
            tried = [value[:3], value + (0,), list(value), (program, 1 - h, at, end), (program, h, at + 1, end), (program, h, at - 1, end), (program, h, at, wrong_end),
                     (program, bool(h), at, end), (program, h, True, end), (program, h, at, (end[0], end[1][:3])), (program, h, at, (end[0][:1], end[1])),
                     (program[::-1], 1 - h, at, (end[0][::-1], end[1])), (program[:1], h, at, end), (program + ((),), h, at, (end[0] + ((0,) * 6,), end[1])),
                     (program, h, -2, end), (program, -2, at, end), (program, h, -1, end), (program, -1, at, end), (program, -1, at - 4, end)]
            changed = list(variants(value))
            tried += [draw.one_of(changed) for _ in range(10)]
            for changed_value in tried:
                expected = self.told_holds(one, other, changed_value)
                good += expected
                check_boolean(self, expected, counterexample_holds(one, other, changed_value))
            for wrong_pair in ((other, one), (one, KINDS[draw.below(12)]), (KINDS[draw.below(12)], other)):
                if wrong_pair != (("whole",), ("whole",)):
                    check_boolean(self, wrong_pair == (one, other), counterexample_holds(*wrong_pair, value))
        self.assertGreater(good, 100)
        for wrong in WRONG:
            check_boolean(self, False, counterexample_holds(("get", "take"), ("get", "loose"), wrong))

    def test_programs_that_are_too_big(self):
        one, other = ("get", "take"), ("get", "loose")
        end = (((0, 1, 0, 0, 0, 0), (0, 1, 0, 0, 0, 0)), (1, 1, 0, 0))
        put, branch = ("put", 0, 0, 2, "loose"), ("if", 5, (), ())
        def holds(first, second):
            return counterexample_holds(one, other, ((PASSING[0] + first, PASSING[1] + second), 1, 0, end))
        check_boolean(self, True, holds((), ()))
        check_boolean(self, True, holds((put, put), (put, put)))
        check_boolean(self, False, holds((put, put), (put, put, ("get", 5, 0, 3, "loose"))))
        check_boolean(self, True, holds((("whole",),) * 2, (("whole",),) * 2))
        check_boolean(self, False, holds((put,) * 3, (("whole",), ("swap", 5, 0, 0, 2, "loose"), put)))
        check_boolean(self, False, holds((put,) * 5, ()))
        check_boolean(self, False, holds((("again", 5, (("whole",),)),), ()))
        check_boolean(self, True, holds((("again", 4, (("whole",),)),), ()))
        check_boolean(self, True, holds((branch,) * 3, (branch,) * 3))
        check_boolean(self, False, holds((branch,) * 3, (branch,) * 4))
        check_boolean(self, False, holds((("again", 8, (("again", 8, (("again", 8, (branch,)),)),)),), ()))
        check_boolean(self, False, holds((("again", 8, (("again", 8, (("again", 8, (put,)),)),)),), ()))
        check_boolean(self, False, holds((("get", 4, 0, 3, "loose"), ("get", 5, 4, 3, "loose")), ()))
        check_boolean(self, True, holds((("get", 4, 0, 3, "loose"), ("get", 5, 3, 3, "loose")), ()))
        # Five writes of one cell, among eight touches.
        for many in (3, 4):
            check_boolean(self, many == 3, holds((("put", 1, 0, 0, "loose"),) * many, ()))
            check_boolean(self, many == 3, holds((("again", many, (("put", 1, 0, 4, "give"),)),), ()))
        # 64 and 65 paths.
        three = ("if", 5, (branch,), ())
        self.assertEqual(len(told.paths_of(((three,),))), 3)
        check_boolean(self, True, holds((("if", 5, (branch, branch, branch, branch), (branch,) * 4),), (branch,)))
        check_boolean(self, False, holds((("if", 5, (branch, branch), ()),), (("if", 5, (branch, branch, three), ()),)))
        for sides in (((), (branch,) * 6), ((branch,) * 6, ())):
            check_boolean(self, False, holds((("if", 5) + sides,), ()))
        # Only one path has too many touches.
        check_boolean(self, False, holds((("if", 5, (put,) * 5, ()),), ()))
        check_boolean(self, True, holds((("if", 5, (put,) * 4, ()),), ()))
        check_boolean(self, False, counterexample_holds(one, other, (NOT_SHORT[0], 0, 0, (((0,) * 6,), ZEROS))))

    def test_neighbours_that_are_not_fixed(self):
        end = (((0, 1, 0, 0, 0, 0), (0, 1, 0, 0, 0, 0)), (1, 1, 0, 0))
        for extra, expected in ((("set", 5, 0), True), (("set", 0, 0), False), (("again", 0, (("set", 0, 1),)), False)):
            program = (PASSING[0], PASSING[1] + (extra,))
            check_boolean(self, expected, counterexample_holds(("get", "take"), ("get", "loose"), (program, 1, 0, end)))

    def test_what_is_no_name_with_a_mode(self):
        good = ("get", "take")
        wrong_ones = WRONG + (("get",), ("get", "give"), ("get", "both"), ("put", "take"), ("put", "both"), ("swap", "none"), ("await", "take"), ("await", "loose"), ("whole", "loose"),
                              ("whole", "whole"), ("Get", "take"), ["get", "take"], ("get", "take", 0), ("take", "get"), ("set",), ("fence",), "whole", ["whole"], (("whole",),),
                              ("get", ("take",)), (b"get", "take"), (Odd(), "take"), ("get", Odd()), (Odd(),), ("get", 0), (None, None))
        for wrong in wrong_ones:
            check_raises(self, InvalidMode, wrong, counterexample, wrong, None)
            check_raises(self, InvalidMode, wrong, counterexample, wrong, good)
            check_raises(self, InvalidMode, wrong, counterexample, good, wrong)
            check_raises(self, InvalidMode, wrong, counterexample, ("whole",), wrong)
            check_raises(self, InvalidMode, wrong, counterexample_holds, wrong, wrong, None)
            check_raises(self, InvalidMode, wrong, counterexample_holds, good, wrong, None)
        check_raises(self, InvalidMode, ("whole",), counterexample, ("whole",), ("whole",))
        check_raises(self, InvalidMode, ("whole",), counterexample_holds, ("whole",), ("whole",), None)


if __name__ == "__main__":
    unittest.main()
