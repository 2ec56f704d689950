import unittest

from touchroad.errors import (InvalidBook, InvalidHistory, InvalidKind, InvalidLinearization, InvalidMemory, InvalidNumber, InvalidRun, NotDistinct,
                              NotPlainCell)
from touchroad.histories import (history_of_run, initial_state, is_history, linearization_at, linearization_holds, linearization_place, linearizations,
                                 linearized, queue_fault, queue_fault_holds, refutation_holds, register_fault, register_fault_holds, state_after)
from tests import reference_histories as told
from tests.helpers import WRONG, Draw, Odd, check_boolean, check_examples, check_raises, lively_book, same, variants
from tests.reference import Plain
from tests.test_road import drawn_run

EXAMPLES = """
>>> from touchroad.histories import linearization_at, linearizations, linearized, queue_fault, refutation_holds, register_fault
>>> lane = ((0, ("put", 5), None, 0, 3), (1, ("put", 6), None, 1, 4), (0, ("take",), 6, 5, 6))
>>> [linearizations("queue", lane), linearization_at("queue", lane, 0), linearized("queue", lane), queue_fault(lane)]
[1, (1, 0, 2), ('linearization', (1, 0, 2)), None]
>>> apart = ((0, ("put", 5), None, 0, 1), (1, ("put", 6), None, 2, 3), (0, ("take",), 6, 4, 5))
>>> [linearized("queue", apart)[0], queue_fault(apart), refutation_holds("queue", apart, (((), ()), ((0,), (5,)), ((0, 1), (5, 6))))]
['refutation', ('overtaken', 0, 1), True]
>>> register_fault(((0, ("put", 5), None, 0, 1), (1, ("get",), 0, 2, 3)))
('zones', 0, 5)
"""

LANE = ((0, ("put", 5), None, 0, 3), (1, ("put", 6), None, 1, 4), (0, ("take",), 6, 5, 6))
APART = ((0, ("put", 5), None, 0, 1), (1, ("put", 6), None, 2, 3), (0, ("take",), 6, 4, 5))
AGAINST = (((), ()), ((0,), (5,)), ((0, 1), (5, 6)))
NO_KINDS = WRONG + ("Queue", "queue ", "plain", ("queue",), b"queue", 0)
PUT, TAKE, GET, GIVE = ("put", 1), ("take",), ("get",), ("give",)
LAST = 10 ** 30


def one(kind, *call, hand=0, times=(0, 1)):
    return is_history(kind, ((hand,) + call + times,))


class Kinds(unittest.TestCase):
    def test_examples(self):
        check_examples(self, EXAMPLES)

    def test_no_kinds(self):
        for wrong in NO_KINDS:
            check_raises(self, InvalidKind, wrong, initial_state, wrong)
            check_raises(self, InvalidKind, wrong, is_history, wrong, None)
            check_raises(self, InvalidKind, wrong, state_after, wrong, None, None)
            check_raises(self, InvalidKind, wrong, linearized, wrong, None)
            check_raises(self, InvalidKind, wrong, linearizations, wrong, None)
            for call in (linearization_holds, refutation_holds, linearization_at, linearization_place):
                check_raises(self, InvalidKind, wrong, call, wrong, None, None)

    def test_states(self):
        self.assertTrue(same([initial_state(kind=kind) for kind in told.KINDS], [0, 0, (), (), ()]))
        cases = [
            ("register", 7, 0, ("put", 65535), None, (65535,)), ("register", 7, 0, ("put", 0), None, (0,)), ("register", 7, 3, GET, 7, (7,)),
            ("register", 0, 3, GET, 0, (0,)), ("register", 7, 3, GET, 8, ()), ("register", 65535, 3, GET, 65535, (65535,)),
            ("counter", 65535, 0, ("add", 1), 65535, (0,)), ("counter", 65535, 0, ("add", 65535), 65535, (65534,)), ("counter", 0, 0, ("add", 0), 0, (0,)),
            ("counter", 3, 0, ("add", 1), 4, ()), ("counter", 3, 0, ("add", 4), 3, (7,)),
            ("lock", (), 0, TAKE, None, ((0,),)), ("lock", (), 3, TAKE, None, ((3,),)), ("lock", (0,), 0, TAKE, None, ()), ("lock", (2,), 1, TAKE, None, ()),
            ("lock", (3,), 3, GIVE, None, ((),)), ("lock", (3,), 2, GIVE, None, ()), ("lock", (), 0, GIVE, None, ()),
            ("queue", (), 0, PUT, None, ((1,),)), ("queue", (5, 6), 0, PUT, None, ((5, 6, 1),)), ("queue", (5, 6), 0, TAKE, 5, ((6,),)),
            ("queue", (5, 6), 0, TAKE, 6, ()), ("queue", (5,), 0, TAKE, None, ()), ("queue", (), 0, TAKE, None, ((),)), ("queue", (), 0, TAKE, 0, ()),
            ("queue", (0,), 0, TAKE, 0, ((),)), ("queue", (0,), 0, TAKE, None, ()),
            ("stack", (), 0, PUT, None, ((1,),)), ("stack", (5, 6), 0, PUT, None, ((5, 6, 1),)), ("stack", (5, 6), 0, TAKE, 6, ((5,),)),
            ("stack", (5, 6), 0, TAKE, 5, ()), ("stack", (5,), 0, TAKE, None, ()), ("stack", (), 0, TAKE, None, ((),)), ("stack", (), 0, TAKE, 0, ())]
        for kind, state, hand, operation, answer, after in cases:
            self.assertTrue(same(state_after(kind=kind, state=state, call=(hand, operation, answer, 0, 1)), after), (kind, state, operation, answer))

    def test_operations_and_answers(self):
        for kind in told.KINDS:
            for name in ("put", "get", "add", "take", "give", "load", "swap", ""):
                for rest in ((), (0,), (65535,), (65536,), (-1,), (True,), (None,), (1, 2), ((1,),)):
                    for answer in (None, 0, 65535, 65536, -1, True, False, (), (1,), "1", Odd()):
                        call = (0, (name,) + rest, answer, 0, 1)
                        check_boolean(self, told.is_history(kind, (call,)), is_history(kind, (call,)))
        for operation in (None, (), [], ["get"], "get", (("get",),), (None,), (b"get",), (Odd(),), ("get", None), GET * 2):
            self.assertFalse(one("register", operation, 0))

    def test_hands_and_times(self):
        for hand in (0, 3):
            self.assertTrue(one("queue", PUT, None, hand=hand))
        for hand in (-1, 4, True, False, None, "0", (0,), Odd()):
            self.assertFalse(one("queue", PUT, None, hand=hand))
        for times in ((0, 1), (0, LAST), (LAST - 1, LAST)):
            self.assertTrue(one("queue", PUT, None, times=times))
        for times in ((1, 1), (1, 0), (-1, 0), (0, LAST + 1), (LAST, LAST + 1), (False, 1), (0, True), (None, 1), (0, None), (0,), (0, 1, 2), ("0", 1)):
            self.assertFalse(one("queue", PUT, None, times=times))

    def test_several_calls(self):
        def history(*times, kind="queue"):
            return is_history(kind=kind, value=tuple((0, PUT, None) + pair for pair in times))
        for good in ((), ((0, 1),), ((0, 3), (1, 2)), ((0, 2), (1, 3)), ((0, 1), (2, 3)), ((5, 9), (6, 8), (7, 10))):
            self.assertTrue(history(*good))
        for wrong in (((0, 1), (0, 2)), ((0, 2), (1, 2)), ((0, 1), (1, 2)), ((1, 2), (0, 3)), ((2, 3), (0, 1)), ((0, 1), (2, 3), (1, 4)), ((0, 5), (1, 3), (2, 5))):
            self.assertFalse(history(*wrong))
        for many in (9, 10, 11):
            check_boolean(self, many < 11, history(*[(2 * n, 2 * n + 1) for n in range(many)]))
        for wrong in WRONG + (list(LANE), LANE + (None,), (list(LANE[0]),), LANE[0]):
            if wrong != ():
                check_boolean(self, False, is_history("queue", wrong))

    def test_one_part_wrong(self):
        good = 0
        for draw, kind, history in told.histories(321, 40, most=4):
            for other in variants(history):
                expected = told.is_history(kind, other)
                good += expected
                check_boolean(self, expected, is_history(kind, other))
        self.assertGreater(good, 300)

    def test_wrong_histories_are_refused(self):
        for kind in told.KINDS:
            for wrong in WRONG + (LANE[::-1], list(LANE), LANE * 2, ((0, ("jump",), None, 0, 1),)):
                if wrong == ():
                    continue
                check_raises(self, InvalidHistory, wrong, linearized, kind, wrong)
                check_raises(self, InvalidHistory, wrong, linearizations, kind, wrong)
                for call in (linearization_holds, refutation_holds, linearization_place):
                    check_raises(self, InvalidHistory, wrong, call, kind, wrong, None)
                check_raises(self, InvalidHistory, wrong, linearization_at, kind, wrong, -1)
        for wrong in WRONG + (LANE[::-1], list(LANE)):
            if wrong == ():
                continue
            for call in (queue_fault, register_fault):
                check_raises(self, InvalidHistory, wrong, call, wrong)
            for call in (queue_fault_holds, register_fault_holds):
                check_raises(self, InvalidHistory, wrong, call, wrong, None)
        check_raises(self, InvalidHistory, LANE, register_fault, LANE)
        gets = ((0, GET, 0, 0, 1),)
        check_raises(self, InvalidHistory, gets, queue_fault, gets)
        check_raises(self, InvalidHistory, gets, queue_fault_holds, gets, None)


class Linearizations(unittest.TestCase):
    def test_against_a_plain_search(self):
        """Q1: a history has a linearization exactly if it has no refutation."""
        none = some = 0
        for draw, kind, history in told.histories(322, 700, most=5):
            found = told.linearizations(kind, history)
            none, some = none + (not found), some + (len(found) > 1)
            self.assertTrue(same(linearizations(kind, history), len(found)))
            for number in range(len(found)):
                self.assertTrue(same(linearization_at(kind, history, number), found[number]))
                self.assertTrue(same(linearization_place(kind, history, found[number]), number))
            for number in (len(found), len(found) + 1, 10 ** 30):
                self.assertIsNone(linearization_at(kind, history, number))
            name, value = linearized(kind, history)
            self.assertEqual(name, "linearization" if found else "refutation")
            if found:
                self.assertIn(value, found)
                check_boolean(self, True, linearization_holds(kind, history, value))
            else:
                self.assertTrue(told.is_refutation(kind, history, value), (kind, history, value))
                check_boolean(self, True, refutation_holds(kind, history, value))
            self.check_one_part_wrong(kind, history, value, found)
        self.assertGreater(none, 100)
        self.assertGreater(some, 100)

    def check_one_part_wrong(self, kind, history, value, found):
        changed = [other for at, other in enumerate(variants(value)) if at % 11 == 0 or at < 20]
        changed += [value[:at] + value[at + 1:] for at in range(len(value))] + [value[::-1], value[1:] + value[:1]]
        for other in changed:
            right = told.is_linearization(kind, history, other)
            check_boolean(self, right, linearization_holds(kind, history, other))
            check_boolean(self, told.is_refutation(kind, history, other), refutation_holds(kind, history, other))
            if not right:
                check_raises(self, InvalidLinearization, other, linearization_place, kind, history, other)

    def test_numbers(self):
        for number in (-1, -10 ** 40):
            check_raises(self, InvalidNumber, number, linearization_at, "queue", LANE, number)
            check_raises(self, InvalidNumber, number, linearization_at, "queue", APART, number)
        self.assertIsNone(linearization_at("queue", APART, 0))
        self.assertEqual(linearization_at(kind="lock", history=(), number=0), ())
        self.assertIsNone(linearization_at("lock", (), 1))
        self.assertEqual([linearizations(kind=kind, history=()) for kind in told.KINDS], [1] * 5)
        self.assertEqual(linearization_place(kind="lock", history=(), linearization=()), 0)
        self.assertEqual(linearized(kind="stack", history=()), ("linearization", ()))

    def test_ten_calls(self):
        """All ten puts of one word overlap: all sequences are linearizations."""
        history = tuple((0, ("put", 7), None, n, 20 - n) for n in range(10))
        for kind in ("register", "queue", "stack"):
            self.assertEqual(linearizations(kind, history), 3628800)
            self.assertEqual(linearization_at(kind, history, 3628799), (9, 8, 7, 6, 5, 4, 3, 2, 1, 0))
            self.assertEqual(linearization_at(kind, history, 362880), (1, 0, 2, 3, 4, 5, 6, 7, 8, 9))
            self.assertIsNone(linearization_at(kind, history, 3628800))
            self.assertEqual(linearization_place(kind, history, (9, 8, 7, 6, 5, 4, 3, 2, 1, 0)), 3628799)
        counter = tuple((n % 4, ("add", 1), 9 - n, n, 40 - n) for n in range(10))
        self.assertEqual(linearized("counter", counter), ("linearization", tuple(range(9, -1, -1))))
        self.assertEqual(linearizations("counter", counter), 1)
        locks = tuple((n % 4, TAKE if n % 2 else GIVE, None, n, 40 - n) for n in range(10))
        self.assertEqual(linearized("lock", locks)[0], "refutation")

    def test_other_linearizations_and_refutations(self):
        for wrong in WRONG + ([1, 0, 2], (1, 0), (1, 0, 2, 2), (0, 1, 2), (1, 2, 0), (2, 1, 0), (1, 0, 3), (1, 0, -1), (True, 0, 2), (1, False, 2), (1, 0, Odd())):
            check_boolean(self, False, linearization_holds(kind="queue", history=LANE, value=wrong))
            check_raises(self, InvalidLinearization, wrong, linearization_place, "queue", LANE, wrong)
        check_boolean(self, True, refutation_holds(kind="queue", history=APART, value=AGAINST))
        more = AGAINST[:2] + (((0,), (9, 9, 9)), ((0, 1), (5, 6)), ((0, 1), (9, 9, 9, 6)))
        check_boolean(self, True, told.is_refutation("queue", APART, more))
        check_boolean(self, True, refutation_holds("queue", APART, more))
        for wrong in WRONG + (list(AGAINST), AGAINST[:2], AGAINST[1:], AGAINST[::-1], AGAINST + AGAINST[-1:], AGAINST[:1] * 2 + AGAINST[1:],
                              AGAINST + (((0, 1, 2), (5,)),), (((), 0),) + AGAINST[1:], (((), ()), ((False,), (5,)), ((0, 1), (5, 6))),
                              (((), ()), ((0,), (True,)), ((0, 1), (5, 6))), AGAINST[:2] + (((1, 0), (5, 6)),), AGAINST[:2] + (((0, 1), (6, 5)),),
                              AGAINST + (((0, 3), ()),), AGAINST[:2] + ([(0, 1), (5, 6)],), AGAINST[:1] + (((0,), (5,), ()),) + AGAINST[2:]):
            check_boolean(self, False, refutation_holds("queue", APART, wrong))
        twice = ((1, TAKE, None, 0, 1), (1, TAKE, None, 2, 3))
        for states, expected in (((), True), (((3,),), True), (((1, 2),), False), (((4,),), False), (((True,),), False), (((-1,),), False), ((0,), False), ((None,), False)):
            value = tuple(sorted((((), ()), ((0,), (1,))) + tuple(((0,), state) for state in states), key=repr))
            check_boolean(self, expected, refutation_holds("lock", twice, value))
            check_boolean(self, expected, told.is_refutation("lock", twice, value))
        # The put of 6 comes behind that of 5, and both were done.
        check_boolean(self, False, refutation_holds("queue", LANE, linearized("queue", APART)[1]))
        check_boolean(self, False, refutation_holds("queue", (), (((), ()),)))

    def test_lock_and_counter(self):
        free = ((1, TAKE, None, 0, 5), (1, GIVE, None, 1, 6), (2, TAKE, None, 2, 7), (2, GIVE, None, 3, 8))
        self.assertEqual(linearizations("lock", free), 2)
        self.assertEqual([linearization_at("lock", free, n) for n in range(3)], [(0, 1, 2, 3), (2, 3, 0, 1), None])
        twice = ((1, TAKE, None, 0, 1), (1, TAKE, None, 2, 3))
        self.assertEqual(linearized("lock", twice), ("refutation", (((), ()), ((0,), (1,)))))
        self.assertEqual(linearized("counter", ((0, ("add", 65535), 0, 0, 1), (1, ("add", 2), 65535, 2, 3), (1, ("add", 0), 1, 4, 5))),
                         ("linearization", (0, 1, 2)))


class Faults(unittest.TestCase):
    def test_of_queues(self):
        """Q2: a distinct history of a queue has a linearization exactly if it has no fault."""
        kinds, none = set(), 0
        for draw, kind, history in told.histories(323, 1200, "queue", 6, (1, 2, 3, 4, 5)):
            if not told.is_distinct("queue", history):
                check_raises(self, NotDistinct, history, queue_fault, history)
                check_raises(self, NotDistinct, history, queue_fault_holds, history, None)
                continue
            fault, faults = queue_fault(history), told.queue_faults(history)
            self.assertEqual(fault is None, not faults)
            self.assertEqual(fault is None, linearized("queue", history)[0] == "linearization")
            kinds |= {value[0] for value in faults}
            none += fault is None
            if fault is not None:
                self.assertTrue(told.is_queue_fault(history, fault))
                self.check_holds(history, faults + [fault], queue_fault_holds, told.is_queue_fault)
            else:
                self.check_holds(history, [("fresh", 0), ("twice", 0, 1), ("overtaken", 0, 1), ("empty", 1, (0,))], queue_fault_holds, told.is_queue_fault)
        self.assertEqual(kinds, {"fresh", "twice", "overtaken", "empty"})
        self.assertGreater(none, 100)

    def test_of_registers(self):
        """Q3: a distinct history of a register has a linearization exactly if it has no fault."""
        kinds, none = set(), 0
        for draw, kind, history in told.histories(324, 1200, "register", 6, (0, 1, 2, 3, 4, 5, 6)):
            if not told.is_distinct("register", history):
                check_raises(self, NotDistinct, history, register_fault, history)
                check_raises(self, NotDistinct, history, register_fault_holds, history, None)
                continue
            fault, faults = register_fault(history), told.register_faults(history)
            self.assertEqual(fault is None, not faults)
            self.assertEqual(fault is None, linearized("register", history)[0] == "linearization", history)
            kinds |= {value[0] for value in faults}
            none += fault is None
            if fault is not None:
                self.assertTrue(told.is_register_fault(history, fault))
            self.check_holds(history, faults or [("fresh", 0), ("zones", 0, 1), ("zones", 1, 2)], register_fault_holds, told.is_register_fault)
        self.assertEqual(kinds, {"fresh", "zones"})
        self.assertGreater(none, 100)

    def check_holds(self, history, values, holds, told_holds):
        for value in values[:3] + values[-3:]:
            check_boolean(self, told_holds(history, value), holds(history, value))
            for other in variants(value):
                check_boolean(self, told_holds(history, other), holds(history, other))

    def test_each_kind_by_hand(self):
        fresh = ((0, TAKE, 5, 0, 1), (0, ("put", 5), None, 2, 3))
        self.assertEqual(queue_fault(fresh), ("fresh", 0))
        self.assertEqual(queue_fault(fresh[:1]), ("fresh", 0))
        self.assertEqual(queue_fault(((0, TAKE, 0, 0, 1),)), ("fresh", 0))
        self.assertIsNone(queue_fault(((0, TAKE, 5, 0, 3), (0, ("put", 5), None, 2, 4))))
        twice = ((0, ("put", 5), None, 0, 9), (1, TAKE, 5, 1, 8), (2, TAKE, 5, 2, 7))
        self.assertEqual(queue_fault(twice), ("twice", 1, 2))
        check_boolean(self, False, queue_fault_holds(twice, ("twice", 2, 1)))
        self.assertEqual(queue_fault(APART), ("overtaken", 0, 1))
        chain = ((0, ("put", 5), None, 0, 1), (0, ("put", 6), None, 2, 3), (1, TAKE, 5, 4, 20), (2, TAKE, None, 5, 6), (3, TAKE, 6, 7, 8))
        self.assertEqual(queue_fault(chain)[0], "empty")
        for puts, expected in (((0, 1), True), ((1,), True), ((0,), False), ((0, 1, 1), True), ((), False), ([1], False), ((True,), False), ((2,), False), ((1, 0), False)):
            check_boolean(self, expected, queue_fault_holds(chain, ("empty", 3, puts)))
            check_boolean(self, expected, told.is_queue_fault(chain, ("empty", 3, puts)))
        # No index counts from the end.
        late = ((1, TAKE, 6, 0, 9), (0, ("put", 5), None, 1, 2), (0, ("put", 6), None, 3, 4))
        for value, expected in ((("overtaken", 1, 2), True), (("overtaken", 1, -1), False), (("overtaken", -2, 2), False)):
            check_boolean(self, expected, queue_fault_holds(late, value))
        early = ((1, TAKE, None, 2, 3), (0, ("put", 5), None, 4, 5))
        for puts in ((-1,), (1,)):
            check_boolean(self, False, queue_fault_holds(early, ("empty", 0, puts)))
        there = ((0, ("put", 5), None, 0, 1), (1, TAKE, None, 2, 3))
        for puts, expected in (((0,), True), ((-2,), False), ((0, -2), False)):
            check_boolean(self, expected, queue_fault_holds(there, ("empty", 1, puts)))
        check_boolean(self, False, queue_fault_holds(there, ("empty", -1, (0,))))
        # No put alone was there all the time, but one of two was.
        two = ((0, ("put", 5), None, 0, 1), (1, TAKE, None, 2, 9), (0, ("put", 6), None, 3, 4), (2, TAKE, 5, 5, 20), (3, TAKE, 6, 10, 11))
        self.assertEqual(queue_fault(history=two), ("empty", 1, (0, 2)))
        check_boolean(self, True, queue_fault_holds(history=two, value=("empty", 1, (0, 2))))
        check_boolean(self, False, queue_fault_holds(two, ("empty", 1, (2,))))
        check_boolean(self, False, queue_fault_holds(two, ("empty", 1, (0,))))
        self.assertIsNone(queue_fault(()))
        self.assertIsNone(register_fault(()))
        self.assertEqual(register_fault(history=((0, GET, 5, 0, 1),)), ("fresh", 0))
        self.assertIsNone(register_fault(((0, GET, 0, 0, 1),)))
        old = ((0, ("put", 5), None, 0, 1), (0, ("put", 6), None, 2, 3), (0, GET, 5, 4, 5))
        self.assertEqual(register_fault(old), ("zones", 5, 6))
        for value, expected in ((("zones", 5, 6), True), (("zones", 6, 5), False), (("zones", 0, 5), False), (("zones", 5, 7), False), (("zones", 5, True), False)):
            check_boolean(self, expected, register_fault_holds(history=old, value=value))

    def test_not_distinct(self):
        same_word = ((0, ("put", 5), None, 0, 1), (0, ("put", 5), None, 2, 3))
        for call in (queue_fault, register_fault):
            check_raises(self, NotDistinct, same_word, call, same_word)
        zero = ((0, ("put", 0), None, 0, 1),)
        check_raises(self, NotDistinct, zero, register_fault, zero)
        check_raises(self, NotDistinct, zero, register_fault_holds, zero, ("fresh", 0))
        self.assertIsNone(queue_fault(zero))
        for wrong in WRONG:
            check_boolean(self, False, queue_fault_holds(LANE, wrong))
            check_boolean(self, False, register_fault_holds((), wrong))


CELL = (("set", 1, 5), ("store", 1, 7, 0), ("load", 2, 7, 1)), (("load", 2, 7, 0), ("swap", 3, 3, 7, 1), ("store", 2, 7, 1))


class OfRuns(unittest.TestCase):
    def calls(self, book, memory, run, cell):
        """The calls of a run, None if they are no history of a register."""
        machine, calls, late, plain = Plain(book, memory), [], [[] for _ in book], memory[cell] == 0
        for n, step in enumerate(run):
            c = step[1]
            if step[0] == "flush":
                at, (k, word) = late[c].pop(0), machine.stores[c][0]
                if k == cell:
                    calls.append((c, ("put", word), None, 2 * at, 2 * n + 1))
            else:
                i = book[c][machine.row[c]]
                if i[0] in ("load", "store", "swap", "addto"):
                    k = (machine.regs[c][i[-2]] + i[-1]) % len(memory)
                    if i[0] == "store":
                        late[c].append(n)
                    elif k == cell and i[0] == "load":
                        plain = plain and cell not in [own for own, _ in machine.stores[c]]
                        calls.append((c, ("get",), machine.memory[cell], 2 * n, 2 * n + 1))
                    elif k == cell:
                        plain = False
            machine.go(step)
        return tuple(sorted(calls, key=lambda call: call[3])) if plain and len(calls) < 11 else None

    def test_against_the_steps_of_drawn_runs(self):
        """Q4: each history of a run has a linearization."""
        draw, plain, refused = Draw(325), 0, 0
        while plain < 250:
            book = lively_book(draw, 1 + draw.below(3), 8)
            memory = (draw.one_of((0, 0, 0, 1)), 0)
            run = drawn_run(draw, Plain(book, memory))
            if run is None:
                continue
            for cell in (0, 1):
                calls = self.calls(book, memory, run, cell)
                if calls is None:
                    refused += 1
                    check_raises(self, NotPlainCell, cell, history_of_run, book, memory, run, cell)
                    continue
                plain += 1
                history = history_of_run(book=book, memory=memory, run=run, cell=cell)
                self.assertTrue(same(history, calls), (book, memory, run, cell))
                self.assertTrue(is_history("register", history))
                self.assertEqual(linearized("register", history)[0], "linearization")
        self.assertGreater(refused, 100)

    def test_by_hand(self):
        run = [("do", 0), ("do", 0), ("do", 1), ("do", 0), ("flush", 0), ("do", 1), ("do", 1), ("flush", 1)]
        self.assertEqual(history_of_run(CELL, (0, 9), run, 0), ((0, ("put", 5), None, 2, 9), (1, ("get",), 0, 4, 5)))
        check_raises(self, NotPlainCell, 1, history_of_run, CELL, (0, 9), run, 1)
        check_raises(self, NotPlainCell, 0, history_of_run, CELL, (3, 9), run, 0)
        self.assertEqual(history_of_run(((), ()), (0,), [], 0), ())
        check_raises(self, NotPlainCell, 0, history_of_run, ((),), (1,), [], 0)

    def test_each_reason_alone(self):
        own = (("store", 1, 7, 0), ("load", 2, 7, 0))
        for swapping in (("swap", 1, 1, 7, 0), ("addto", 1, 1, 7, 0)):
            check_raises(self, NotPlainCell, 0, history_of_run, ((swapping,),), (0, 0), [("do", 0)], 0)
            self.assertEqual(history_of_run(((swapping,),), (0, 0), [("do", 0)], 1), ())
        check_raises(self, NotPlainCell, 0, history_of_run, (own,), (0, 0), [("do", 0), ("do", 0), ("flush", 0)], 0)
        self.assertEqual(history_of_run((own,), (0, 0), [("do", 0), ("flush", 0), ("do", 0)], 0),
                         ((0, ("put", 0), None, 0, 3), (0, ("get",), 0, 4, 5)))
        for many in (10, 11):
            book, run = ((("load", 1, 7, 0),) * many,), [("do", 0)] * many
            if many == 10:
                self.assertEqual(len(history_of_run(book, (0,), run, 0)), 10)
            else:
                check_raises(self, NotPlainCell, 0, history_of_run, book, (0,), run, 0)
        check_raises(self, NotPlainCell, 0, history_of_run, ((("load", 1, 7, 0),) * 5, (("store", 1, 7, 0),) * 6), (0,), [("do", 0)] * 5 + [("do", 1), ("flush", 1)] * 6, 0)

    def test_errors_in_their_sequence(self):
        run = [("do", 0), ("do", 0), ("do", 1), ("do", 0), ("flush", 0), ("do", 1), ("do", 1), ("flush", 1)]
        for wrong in WRONG + ((), list(CELL)):
            check_raises(self, InvalidBook, wrong, history_of_run, wrong, wrong, None, -1)
        for wrong in WRONG + ([0], (True,)):
            check_raises(self, InvalidMemory, wrong, history_of_run, CELL, wrong, None, -1)
        for wrong in WRONG + (run[:-1], tuple(run), run + [("do", 0)], [("do", 1)] + run):
            check_raises(self, InvalidRun, wrong, history_of_run, CELL, (0, 9), wrong, -1)
        for wrong in (-1, 2, 10 ** 20):
            check_raises(self, InvalidNumber, wrong, history_of_run, CELL, (3, 9), run, wrong)
        before = list(run)
        history_of_run(CELL, (0, 9), run, 0)
        self.assertEqual(run, before)


if __name__ == "__main__":
    unittest.main()
