import itertools
import unittest

from touchroad.errors import InvalidMemory, InvalidPaths, InvalidProgram
from touchroad.tongue import actions_of, interleaved_ends, is_program, is_short, is_statement, paths_of
from tests import reference_programs as told
from tests.helpers import WRONG, Draw, check_boolean, check_examples, check_raises, deep, same, variants
from tests.reference import ends_in, reached_from

EXAMPLES = """
>>> from touchroad.tongue import actions_of, interleaved_ends, is_program, is_short, paths_of
>>> choosy = ((("get", 1, 0, 0, "take"), ("if", 1, (("get", 2, 0, 1, "loose"),), (("again", 2, (("add", 2, 2, 1),)),))),)
>>> [is_program(choosy), is_short(choosy), paths_of(choosy), is_program(((("get", 1, 0, 0, "give"),),))]
[True, True, [((False,),), ((True,),)], False]
>>> actions_of(choosy, ((False,),))
[[('get', 1, 0, 0, 'take'), ('branch', 1, False), ('add', 2, 2, 1), ('add', 2, 2, 1)]]
>>> interleaved_ends(choosy, (0, 7))
[(((0, 0, 0, 0, 0, 0),), (0, 7))]
"""

STATEMENTS = (
    ("set", 0, 0), ("set", 5, 65535), ("add", 0, 1, 2), ("sub", 5, 5, 5), ("and", 1, 2, 3), ("xor", 3, 2, 1), ("below", 4, 0, 0),
    ("get", 0, 1, 2, "loose"), ("get", 5, 5, 65535, "take"), ("put", 0, 1, 2, "loose"), ("put", 5, 5, 65535, "give"),
    ("swap", 0, 1, 2, 3, "loose"), ("swap", 5, 5, 5, 65535, "take"), ("swap", 0, 0, 0, 0, "give"), ("swap", 0, 1, 2, 3, "both"),
    ("addto", 0, 1, 2, 3, "loose"), ("addto", 5, 5, 5, 65535, "take"), ("addto", 0, 0, 0, 0, "give"), ("addto", 0, 1, 2, 3, "both"),
    ("await", 0, 1, 2, "loose"), ("await", 5, 5, 65535, "take"), ("whole",),
    ("if", 0, (), ()), ("if", 5, (("whole",),), ()), ("if", 1, (), (("set", 1, 1), ("whole",))), ("again", 0, ()), ("again", 8, (("whole",),)),
    ("if", 1, (("again", 2, (("if", 2, (("whole",),), ()),)),), (("again", 0, ()),)),
)
NO_STATEMENTS = (
    ("get", 0, 1, 2, "give"), ("get", 0, 1, 2, "both"), ("put", 0, 1, 2, "take"), ("put", 0, 1, 2, "both"), ("await", 0, 1, 2, "give"),
    ("await", 0, 1, 2, "both"), ("swap", 0, 1, 2, 3, "none"), ("get", 0, 1, 2), ("get", 0, 1, "loose", 2), ("whole", "loose"),
    ("set", 6, 0), ("set", 0, 65536), ("set", -1, 0), ("set", 0, -1), ("set", True, 0), ("set", 0, True), ("get", 6, 0, 0, "loose"),
    ("get", 0, 6, 0, "loose"), ("get", 0, 0, 65536, "loose"), ("put", 0, 0, 0, ("loose",)), ("load", 0, 0, 0), ("fence",), ("gap",), ("jump", 0),
    ("branch", 0, True), ("if", 6, (), ()), ("if", 0, (), [],), ("if", 0, ()), ("if", 0, (), (), ()), ("if", True, (), ()), ("again", 9, ()),
    ("again", -1, ()), ("again", True, ()), ("again", 1, []), ("again", 1), ("again", 1, (), ()), ("again", 1, ("whole",)),
    ("if", 0, ("whole",), ()), ("if", 0, ((),), ()), ("again", 2, (("get", 0, 1, 2, "give"),)), "whole", ["whole"], ("Whole",), (("whole",),), (),
    (None,), (0,), (b"whole",), ("set",), ("set", 0, "0"), ("stop",), ("if", 0, None, ()),
)


def nested(levels, inside=(), kinds=(0, 1, 2)):
    for level in range(levels):
        inside = ((("if", 0, inside, ()), ("if", 0, (), inside), ("again", 1, inside))[kinds[level % len(kinds)]],)
    return inside


def programs(seed, many, hands=3, size=4, names=told.STATEMENTS, most=30):
    draw = Draw(seed)
    while many:
        program = told.drawn_program(draw, 1 + draw.below(hands), size, names)
        if len(told.paths_of(program)) <= most:
            many -= 1
            yield draw, program


class Statements(unittest.TestCase):
    def test_examples(self):
        check_examples(self, EXAMPLES)

    def test_statements(self):
        for statement in STATEMENTS:
            check_boolean(self, True, is_statement(statement))
            check_boolean(self, True, is_program(((statement,),)))
            check_boolean(self, True, is_program(((), (("whole",), statement, statement))))
        for wrong in NO_STATEMENTS + WRONG:
            check_boolean(self, False, is_statement(wrong))
            check_boolean(self, False, is_program(((wrong,),)))
            check_boolean(self, False, is_program((((("if", 0, (), (wrong,)),),))))

    def test_one_part_wrong(self):
        good = 0
        for statement in STATEMENTS:
            for other in variants(statement):
                expected = told.is_hand((other,))
                good += expected
                check_boolean(self, expected, is_statement(other))
                check_boolean(self, expected, is_program(((("whole",), other),)))
        self.assertGreater(good, 50)

    def test_counts_and_levels(self):
        whole = ("whole",)
        for many in (0, 1, 23, 24, 25, 26, 100):
            check_boolean(self, many <= 24, is_program(((whole,) * many,)))
            check_boolean(self, many <= 24, is_program(((), (whole,) * many)))
            check_boolean(self, 0 < many <= 23, is_program(((("again", 8, (whole,) * many),),)) and many > 0)
            check_boolean(self, many <= 23, is_statement(("if", 0, (whole,) * (many // 2), (whole,) * (many - many // 2))))
            check_boolean(self, many <= 22, is_program(((("if", 0, (("again", 1, (whole,) * many),), ()),),)))
        for levels, kinds in itertools.product(range(8), ((0,), (1,), (2,), (0, 1, 2), (2, 1), (1, 0, 0))):
            check_boolean(self, levels <= 4, is_program((nested(levels, (), kinds),)))
            check_boolean(self, levels <= 3, is_program((nested(levels, (whole,), kinds),)))
            check_boolean(self, levels <= 4, not levels or is_statement(nested(levels, (), kinds)[0]))
        check_boolean(self, True, is_program(((whole,) * 20 + nested(3, (whole,)),)))
        check_boolean(self, False, is_program(((whole,) * 21 + nested(3, (whole,)),)))
        check_boolean(self, False, is_program((nested(60),)))
        check_boolean(self, False, is_program(((("again", 0, deep(80)),),)))
        check_boolean(self, False, is_program((((("whole",),) * 100000),)))

    def test_hands(self):
        for many in range(7):
            check_boolean(self, 1 <= many <= 4, is_program(((),) * many))
        for wrong in WRONG + ([()], ([],), ((), None), (("whole",),), ((("whole",), ()),), "()", ((), [("whole",)])):
            check_boolean(self, False, is_program(wrong))
        check_boolean(self, True, is_program(value=((),)))
        check_boolean(self, True, is_statement(value=("whole",)))


class Paths(unittest.TestCase):
    def test_against_all_walks(self):
        lengths = set()
        for draw, program in programs(271, 150):
            paths = told.paths_of(program)
            self.assertTrue(same(paths_of(program), paths))
            lengths.add(len(paths))
            for path in paths:
                self.assertTrue(same(actions_of(program, path), told.actions_of(program, path)), (program, path))
        self.assertGreater(len(lengths), 5)

    def test_ifs_inside_agains(self):
        choose = ("if", 3, (("set", 1, 1),), (("if", 2, (), (("whole",),)),))
        program = ((("again", 2, (choose,)), ("set", 0, 7)), ())
        one = [((True,), [("branch", 3, True), ("set", 1, 1)]), ((False, True), [("branch", 3, False), ("branch", 2, True)]),
               ((False, False), [("branch", 3, False), ("branch", 2, False), ("whole",)])]
        expected = sorted((p + q, a + b + [("set", 0, 7)]) for p, a in one for q, b in one)
        self.assertTrue(same(paths_of(program), [(p, ()) for p, _ in expected]))
        for path, actions in expected:
            self.assertTrue(same(actions_of(program, (path, ())), [actions, []]))
        self.assertEqual(paths_of(((), ())), [((), ())])
        self.assertEqual(actions_of(((("again", 0, (choose,)),),), ((),)), [[]])
        self.assertEqual(actions_of(((("again", 8, (("whole",),)),),), ((),)), [[("whole",)] * 8])
        self.assertEqual(len(paths_of(((("again", 6, (("if", 0, (), ()),)),),))), 64)
        self.assertEqual(paths_of(((("if", 0, (), ()),), (("if", 1, (), ()),))), [
            ((False,), (False,)), ((False,), (True,)), ((True,), (False,)), ((True,), (True,))])

    def test_no_paths(self):
        program = ((("if", 0, (("if", 1, (), ()),), ()),), ())
        good = [((False,), ()), ((True, False), ()), ((True, True), ())]
        self.assertEqual(paths_of(program), good)
        wrong = list(WRONG) + [((True,), ()), ((False, False), ()), ((), ()), ((True, True, True), ()), ((False,),), ((False,), (), ()),
                               ((0,), ()), ((True, 0), ()), ((1, 1), ()), ([False], ()), [(False,), ()], ((False,), []), ((None,), ()),
                               ((False,), (False,)), (False, ())]
        for path in good:
            wrong += [v for v in variants(path) if not any(same(v, other) for other in good)]
        for value in wrong:
            check_raises(self, InvalidPaths, value, actions_of, program, value)

    def test_short(self):
        get, taken = ("get", 1, 0, 0, "loose"), ("get", 2, 1, 0, "take")
        for hand, good in (
                ((), True), ((get,), True), ((get, taken), False), ((get, ("put", 2, 1, 0, "loose")), False),
                ((get, ("put", 1, 2, 0, "loose")), True), ((get, ("await", 2, 1, 0, "loose")), False), ((get, ("await", 1, 2, 0, "loose")), True),
                ((get, ("swap", 2, 2, 1, 0, "both")), False), ((get, ("swap", 1, 1, 2, 0, "both")), True),
                ((get, ("addto", 2, 2, 1, 0, "loose")), False), ((("swap", 1, 0, 0, 0, "loose"), taken), False),
                ((("addto", 1, 0, 0, 0, "loose"), taken), False), ((("await", 1, 0, 0, "loose"), taken), True), ((("whole",), taken), True),
                ((get, ("set", 1, 0), taken), True), ((get, ("sub", 1, 1, 1), taken), False), ((get, ("and", 1, 0, 2), taken), True),
                ((get, ("add", 3, 2, 1), ("xor", 4, 3, 0), ("get", 5, 4, 0, "loose")), False), ((get, ("below", 3, 1, 2), ("put", 0, 3, 0, "give")), False),
                ((("if", 0, (get,), ()), taken), False), ((("if", 0, (get,), (taken,)),), True), ((("again", 2, (taken, get)),), False),
                ((("again", 1, (taken, get)),), True), ((("again", 0, (get, taken)),), True), ((("if", 0, (get, ("set", 1, 0)), ()), taken), True),
                ((get, ("if", 1, (), (taken,))), False), ((("get", 1, 1, 0, "loose"),), True), ((("again", 2, (("get", 1, 1, 0, "loose"),)),), False),
                ((("if", 0, (get, taken), ()),), False), ((("if", 0, (), (get, taken)), ("set", 1, 1)), False), ((("if", 0, (get, taken), (get, taken)),), False),
                ((("again", 5, (get, taken)), ("if", 0, (), ())), False), ((("again", 8, (("again", 8, (("if", 0, (taken,), (get,)),)),)),), False)):
            check_boolean(self, good, is_short((hand,)))
            check_boolean(self, good, is_short(((("whole",),), hand)))
        # However many paths there are.
        sure = ("if", 1, (("get", 2, 5, 0, "loose"),), (("set", 2, 1),))
        for word, good in ((3, True), (5, False)):
            check_boolean(self, good, is_short(((("again", 8, (("again", 8, (sure, ("if", 3, (("add", word, 2, 2),), ()))),)),),)))
        answers = [0, 0]
        draw = Draw(272)
        for _ in range(300):
            program = tuple(tuple(self.changed(draw, s) for s in hand) for hand in told.drawn_program(draw, 1 + draw.below(2), 4))
            if len(told.paths_of(program)) <= 30:
                answers[told.is_short(program)] += 1
                check_boolean(self, told.is_short(program), is_short(program))
        self.assertGreater(min(answers), 10, answers)

    def changed(self, draw, statement):
        if statement[0] in ("get", "put") and draw.below(2):
            return statement[:2] + (2 + draw.below(3),) + statement[3:]
        return statement

    def test_errors_and_names(self):
        for wrong in WRONG + ([()], ((("get", 0, 0, 0, "give"),),), ((),) * 5):
            check_raises(self, InvalidProgram, wrong, paths_of, wrong)
            check_raises(self, InvalidProgram, wrong, actions_of, wrong, wrong)
            check_raises(self, InvalidProgram, wrong, is_short, wrong)
            check_raises(self, InvalidProgram, wrong, interleaved_ends, wrong, wrong)
        program = ((("if", 0, (), ()), ("whole",)), ())
        self.assertEqual(actions_of(program=program, paths=((True,), ())), [[("branch", 0, True), ("whole",)], []])
        first = actions_of(program, ((True,), ()))
        for inner in first:
            inner.append(None)
        self.assertEqual(actions_of(program, ((True,), ())), [[("branch", 0, True), ("whole",)], []])
        self.assertIsNot(first[0], first[1])
        paths_of(program=program).clear()
        self.assertEqual(len(paths_of(program)), 2)
        check_boolean(self, True, is_short(program=program))
        self.assertEqual(interleaved_ends(program=program, memory=(3,)), [(((0,) * 6, (0,) * 6), (3,))])
        for wrong in WRONG + ([3], (True,), (0,) * 33):
            check_raises(self, InvalidMemory, wrong, interleaved_ends, program, wrong)


class Interleaved(unittest.TestCase):
    def test_against_a_plain_search(self):
        many = set()
        for draw, program in programs(273, 150, size=5):
            memory = tuple(draw.below(3) for _ in range(1 + draw.below(3)))
            states = reached_from(told.Interleaved(program, memory), 2000)
            if states is None:
                continue
            found = ends_in(states)
            many.add(len(found))
            self.assertTrue(same(interleaved_ends(program, memory), found), (program, memory))
        self.assertTrue({0, 1, 2, 3} <= many)

    def test_the_hidden_cell_and_await(self):
        words = (0,) * 6
        # A whole changes no cell of the memory, whatever its number.
        for cells in (1, 2, 31, 32):
            memory = tuple(range(5, 5 + cells))
            self.assertEqual(interleaved_ends(((("whole",), ("whole",)),), memory), [((words,), memory)])
        one = (("set", 1, 1), ("put", 1, 0, 0, "give"))
        other = (("set", 2, 1), ("await", 2, 0, 0, "take"), ("get", 3, 0, 1, "loose"))
        self.assertEqual(interleaved_ends((one, other), (0, 7)), [(((0, 1, 0, 0, 0, 0), (0, 0, 1, 7, 0, 0)), (1, 7))])
        self.assertEqual(interleaved_ends(((), other), (0, 7)), [])
        self.assertEqual(interleaved_ends(((), other), (1, 7)), [((words, (0, 0, 1, 7, 0, 0)), (1, 7))])
        self.assertEqual(interleaved_ends(((("await", 0, 0, 65535, "loose"),),), (5, 0)), [((words,), (5, 0))])

    def test_what_touches_do(self):
        start = ((("set", 1, 65535), ("set", 2, 3), ("addto", 3, 1, 2, 1, "both"), ("swap", 1, 1, 2, 0, "loose"), ("get", 2, 2, 1, "take"),
                  ("put", 2, 1, 65535, "loose"), ("addto", 5, 5, 5, 0, "give")),)
        machine = told.Interleaved(start, (10, 20, 30))
        while machine.steps():
            machine.go(0)
        self.assertEqual(interleaved_ends(start, (10, 20, 30)), [machine.end()])
        self.assertEqual(interleaved_ends(((("set", 1, 5), ("swap", 1, 1, 0, 0, "loose")),), (9,)), [(((0, 9, 0, 0, 0, 0),), (5,))])
        self.assertEqual(interleaved_ends(((("set", 1, 5), ("addto", 1, 1, 0, 0, "loose")),), (65535,)), [(((0, 65535, 0, 0, 0, 0),), (4,))])


if __name__ == "__main__":
    unittest.main()
