import unittest

import touchroad.errors as errors
from touchroad.books import is_book
from touchroad.checks import check_book, check_memory, check_memory_of, check_number, check_plan
from touchroad.copies import copies_deeds, copies_first
from touchroad.ends import always, ends, one_row_run_to, run_leads, run_to
from touchroad.events import choice_of, events, kept
from touchroad.fast import after, bridge, deeds, first, is_bridge, run_by, steady
from touchroad.papers import comes
from touchroad.plain import one_row_run, plain_after, plain_first, plain_run, plain_steps
from tests.helpers import WRONG, check_raises, deep, same

NAMES = """InvalidPlan InvalidBook InvalidMemory InvalidNumber InvalidText NotLet InvalidEnd NotShort InvalidChoice
NotFree InvalidRun InvalidPaper InvalidPlaces InvalidMachine InvalidProgram InvalidPaths InvalidBehaviour
InvalidCertificate TooLong InvalidKind InvalidHistory InvalidLinearization NotDistinct NotPlainCell InvalidMode
InvalidWords InvalidRewrite TooMany Nothing Unreadable InvalidCommand NotReady""".split()


class TheClasses(unittest.TestCase):
    def test_all_classes_are_there_and_no_others(self):
        found = {name for name in vars(errors) if isinstance(getattr(errors, name), type)}
        self.assertEqual(found, set(NAMES) | {"MachineError"})
        self.assertEqual(len(NAMES), 32)

    def test_bases(self):
        self.assertEqual(errors.MachineError.__bases__, (ValueError,))
        for name in NAMES:
            self.assertEqual(getattr(errors, name).__bases__, (errors.MachineError,))

    def test_made_by_place_and_by_name(self):
        for name in NAMES + ["MachineError"]:
            kind = getattr(errors, name)
            for value in ([[1], (2,)], None, 7, "text", {"a": [1]}, object()):
                self.assertIs(kind(value).value, value)
                self.assertIs(kind(value=value).value, value)

    def test_one_argument_only(self):
        for name in NAMES + ["MachineError"]:
            kind = getattr(errors, name)
            self.assertRaises(TypeError, kind)
            self.assertRaises(TypeError, kind, 1, 2)
            self.assertRaises(TypeError, kind, other=1)

    def test_each_is_of_no_other_class_of_the_package(self):
        for name in NAMES:
            error = getattr(errors, name)(1)
            self.assertIsInstance(error, ValueError)
            of = [other for other in NAMES + ["MachineError"] if isinstance(error, getattr(errors, other))]
            self.assertEqual(sorted(of), sorted([name, "MachineError"]))


class WhatIsRaised(unittest.TestCase):
    def test_any_object_that_is_none(self):
        for value in WRONG:
            check_raises(self, errors.InvalidPlan, value, check_plan, value)
            check_raises(self, errors.InvalidBook, value, check_book, value)
            check_raises(self, errors.InvalidMemory, value, check_memory, value)
            check_raises(self, errors.InvalidMemory, value, check_memory_of, (2, 1, 1, 1, 1), value)

    def test_memory_of_another_size(self):
        check_raises(self, errors.InvalidMemory, (0, 0, 0), check_memory_of, (2, 1, 1, 1, 1), (0, 0, 0))
        check_memory_of((2, 1, 1, 1, 1), (0, 0))

    def test_numbers(self):
        for number in (-1, 4, 10 ** 40):
            check_raises(self, errors.InvalidNumber, number, check_number, number, 0, 3)
        check_number(0, 0, 3)
        check_number(3, 0, 3)

    def test_lists_and_tuples_are_built_anew(self):
        inner = [1, (2, [3])]
        table = {"key": inner}
        value = (inner, [inner, inner], table, deep(95))
        with self.assertRaises(errors.InvalidBook) as caught:
            plain_first(value, (0,))
        told = caught.exception.value
        self.assertTrue(same(told, value))
        self.assertIsNot(told[0], inner)
        self.assertIsNot(told[1][0], told[1][1])
        self.assertIsNot(told[1][0], told[0])
        self.assertIsNot(told[0][1], inner[1])
        self.assertIsNot(told[0][1][1], inner[1][1])
        inner.append(4)
        self.assertEqual(len(told[0]), 2)

    def test_which_of_several_errors_comes_first(self):
        good = ((("set", 0, 1),),)
        check_raises(self, errors.InvalidBook, [1], plain_first, [1], [2])
        check_raises(self, errors.InvalidMemory, [2], plain_first, good, [2])
        check_raises(self, errors.InvalidMemory, [2], plain_run, good, [2], [("no",)])
        check_raises(self, errors.NotLet, ["no"], plain_run, good, (0,), [("do", 0), ["no"], ("also", "no")])
        check_raises(self, errors.InvalidPlan, [1], first, [1], [2], [3])
        check_raises(self, errors.InvalidBook, [2], first, (1, 1, 1, 1, 1), [2], [3])
        check_raises(self, errors.InvalidMemory, (0, 0), first, (1, 1, 1, 1, 1), good, (0, 0))
        check_raises(self, errors.InvalidPlan, [1], copies_first, [1], [2], 9)
        check_raises(self, errors.InvalidMemory, (1, 2), copies_first, (1, 1, 1, 1, 1), (1, 2), 9)
        check_raises(self, errors.InvalidNumber, 9, copies_first, (1, 1, 1, 1, 1), (1,), 9)

    def test_any_stand_beside_an_object_that_is_none(self):
        good = ((("set", 0, 1),),)
        stand = plain_first(good, (0,))
        check_raises(self, errors.InvalidBook, [], plain_after, [], stand, ("do", 0))
        fast = first((1, 1, 1, 1, 1), good, (0,))
        check_raises(self, errors.InvalidPlan, 5, after, 5, good, fast, ("fetch", 0))
        check_raises(self, errors.InvalidBook, 5, after, (1, 1, 1, 1, 1), 5, fast, ("fetch", 0))

    def test_equal_is_not_enough(self):
        self.assertIs(is_book(((("set", True, 1),),)), False)
        good = ((("set", 0, 1),), (("set", 0, 1),))
        stand = plain_first(good, (0,))
        check_raises(self, errors.NotLet, ("do", True), plain_after, good, stand, ("do", True))
        check_raises(self, errors.NotLet, ["do", 1], plain_after, good, stand, ["do", 1])


class WhatIsReturned(unittest.TestCase):
    def test_lists_are_new(self):
        book, plan = ((("set", 1, 1), ("store", 1, 0, 0)), (("load", 1, 0, 0),)), (1, 1, 1, 1, 1)
        stand, fast, copies = plain_first(book, (0,)), first(plan, book, (0,)), copies_first(plan, (0,), 2)
        end = ends(book, (0,))[0]
        calls = (lambda: plain_steps(book, stand), lambda: deeds(plan, book, fast), lambda: copies_deeds(plan, copies),
                 lambda: steady(plan, book, (0,), 30)[0], lambda: run_by(plan, book, (0,), [5, 7])[0],
                 lambda: bridge(plan, book, (0,), []), lambda: ends(book, (0,)), lambda: run_to(book, (0,), end),
                 lambda: one_row_run_to(book, (0,), end), lambda: always(book, (0,), 0, 1), lambda: events(book, (0,)),
                 lambda: kept(book, (0,)), lambda: comes(book, (0,), end)[1])
        for call in calls:
            one, other = call(), call()
            self.assertIs(type(one), list)
            self.assertTrue(same(one, other))
            one.append("more")
            self.assertTrue(same(call(), other))

    def test_arguments_are_not_changed(self):
        book, plan = ((("set", 1, 1), ("store", 1, 0, 0)),), (1, 1, 1, 1, 1)
        steps, cores, weather, done = [("do", 0)] * 2 + [("flush", 0)], [0, 0], [5, 10 ** 59], [("fetch", 0), ("retire", 0)]
        before = repr((steps, cores, weather, done))
        plain_run(book, (0,), steps)
        one_row_run(book, (0,), cores)
        run_by(plan, book, (0,), weather)
        bridge(plan, book, (0,), done)
        is_bridge(plan, book, (0,), done, steps)
        run_leads(book, (0,), ends(book, (0,))[0], steps)
        choice_of(book, (0,), steps)
        self.assertEqual(repr((steps, cores, weather, done)), before)


if __name__ == "__main__":
    unittest.main()
