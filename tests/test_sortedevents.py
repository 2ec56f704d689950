import unittest

from touchroad.errors import InvalidBook, InvalidChoice, InvalidMemory, InvalidRun, NotFree, NotShort
from touchroad.events import choice_of, events, is_short, own_behind, ring
from touchroad.sortedevents import sorted_behind, sorted_choice_of, sorted_kept, sorted_ring, sorted_run_of
from touchroad.sortedmachine import sorted_ends, sorted_run, sorted_run_leads
from tests.helpers import WRONG, Draw, check_boolean, check_examples, check_raises, passing_book, same, shares, variants
from tests.reference_sorted import Sorted, keeps
from tests.test_events import all_choices, has_ring, is_own_behind, short_books, third_or_fourth

EXAMPLES = """
>>> from touchroad.events import ring
>>> from touchroad.sortedevents import sorted_behind, sorted_kept, sorted_ring
>>> handed = ((("set", 1, 1), ("store", 1, 0, 0), ("store", 1, 0, 1)), (("load", 1, 0, 1), ("load", 2, 0, 0)))
>>> old = (((2, 1), (3, -1)), ((0,), (1,)))
>>> [sorted_kept(handed, (0, 0)), sorted_behind(handed, (0, 0), old), sorted_ring(handed, (0, 0), old), ring(handed, (0, 0), old)[0]]
[[(2, 3)], [(1, 2), (2, 3), (3, 0)], None, 'behind']
"""


def books(seed, many, most=300):
    """Short books, some of which the sorted machine treats in its own way."""
    yield from short_books(seed, many, most)
    draw = Draw(seed + 1)
    while many:
        book, memory = passing_book(draw), (draw.word(), draw.word())
        choices = all_choices(events(book, memory), memory)
        if len(choices) <= most:
            many -= 1
            yield book, memory, events(book, memory), choices


def is_sorted_behind(book, found, choice, i, k):
    if i == k:
        return False
    if keeps("sorted", book, found, i, k) or third_or_fourth(found, choice, i, k):
        return True
    return dict(choice[0]).get(k) == i and found[i][0] != found[k][0]


def choices_of_runs(book, memory, found):
    """The choices of all runs of the sorted machine, by a search that keeps who wrote what."""
    number = {(e[0], e[1]): i for i, e in enumerate(found)}
    told, seen = set(), set()

    def visit(machine, late, orders, reads):
        state = (machine.stand(), late, orders, reads)
        if state in seen:
            return
        seen.add(state)
        if machine.ended():
            told.add((tuple(sorted(reads)), orders))
        for step in machine.steps():
            other, c = machine.twin(), step[1]
            event = number.get((c, machine.row[c])) if step[0] == "do" else None
            other.go(step)
            new_late, new_orders, new_reads = late, orders, reads
            if step[0] == "flush":
                event = [w for w in late[c] if found[w][3] == step[2]][0]
                new_late = late[:c] + (tuple(w for w in late[c] if w != event),) + late[c + 1:]
            cell = None if event is None else found[event][3]
            name = None if event is None else found[event][2]
            if step[0] == "do" and name in ("load", "swap", "addto"):
                own = [w for w in late[c] if found[w][3] == cell]
                source = own[-1] if own else orders[cell][-1] if orders[cell] else -1
                new_reads = reads + ((event, source),)
            if step[0] == "do" and name == "store":
                new_late = late[:c] + (late[c] + (event,),) + late[c + 1:]
            elif name in ("store", "swap", "addto"):
                new_orders = orders[:cell] + (orders[cell] + (event,),) + orders[cell + 1:]
            visit(other, new_late, new_orders, new_reads)

    visit(Sorted(book, memory), tuple(() for _ in book), tuple(() for _ in memory), ())
    return told


class SortedEvents(unittest.TestCase):
    def test_examples(self):
        check_examples(self, EXAMPLES)

    def test_kept_by_the_rule_for_one_pair(self):
        for book, memory, found, _ in books(251, 60):
            many = range(len(found))
            self.assertTrue(same(sorted_kept(book, memory), [
                (i, k) for i in many for k in many if keeps("sorted", book, found, i, k)]), book)
        store, other, load = ("store", 0, 0, 0), ("store", 0, 0, 1), ("load", 1, 0, 0)
        for middle in (("gap",), ("fence",), ("swap", 2, 0, 0, 2), ("addto", 2, 0, 0, 2), ("load", 2, 0, 2), ("store", 2, 0, 2)):
            for last, good in ((other, middle[0] in ("gap", "fence", "swap", "addto")), (store, True),
                               (load, middle[0] in ("fence", "swap", "addto")), (("swap", 1, 0, 0, 1), True), (("fence",), True)):
                book = ((store, middle, last),)
                at = len(events(book, (0, 0, 0))) - 1
                check_boolean(self, good, (0, at) in sorted_kept(book, (0, 0, 0)))
        self.assertEqual(sorted_kept((((other, store, ("gap",))), (store,)), (0, 0)), [])
        # A gap before or behind both stores is not between them.
        self.assertEqual(sorted_kept(((("gap",), store, other, ("gap",)),), (0, 0)), [])
        # With one cell, all stores are at it.
        self.assertEqual(sorted_kept(((store, other),), (0,)), [(0, 1)])

    def test_behind_and_rings(self):
        kinds = set()
        for book, memory, found, choices in books(252, 25, 100):
            many = range(len(found))
            for choice in choices:
                pairs = [(i, k) for i in many for k in many if is_sorted_behind(book, found, choice, i, k)]
                self.assertTrue(same(sorted_behind(book, memory, choice), pairs))
                own = [(i, k) for i in many for k in many if is_own_behind(found, choice, i, k)]
                self.assertTrue(same(own_behind(book, memory, choice), own))
                told = sorted_ring(book, memory, choice)
                if told is None:
                    self.assertFalse(has_ring(pairs) or has_ring(own))
                    kinds.add(ring(book, memory, choice) is None)
                    continue
                kinds.add(told[0])
                self.assertIsNotNone(ring(book, memory, choice))
                listed = {"behind": pairs, "own": own}[told[0]]
                way = told[1]
                self.assertTrue(type(way) is tuple and len(set(way)) == len(way) > 1)
                self.assertTrue(all(pair in listed for pair in zip(way, way[1:] + way[:1])))
        self.assertEqual(kinds, {"behind", "own", True, False})

    def test_runs_of_all_choices(self):
        only_sorted = 0
        for book, memory, found, choices in books(253, 30, 60):
            free = []
            for choice in choices:
                if sorted_ring(book, memory, choice) is not None:
                    check_raises(self, NotFree, choice, sorted_run_of, book, memory, choice)
                    continue
                free.append(choice)
                only_sorted += ring(book, memory, choice) is not None
                run = sorted_run_of(book, memory, choice)
                stand = sorted_run(book, memory, run)
                end = (tuple(core[1] for core in stand[0]), stand[1])
                self.assertTrue(sorted_run_leads(book, memory, end, run))
                self.assertIn(end, sorted_ends(book, memory))
                self.assertTrue(same(sorted_choice_of(book, memory, run), choice))
            self.assertEqual(set(free), choices_of_runs(book, memory, found))
        self.assertGreater(only_sorted, 10)

    def test_choices_of_runs_that_are_drawn(self):
        draw = Draw(254)
        for book, memory, found, _ in books(255, 60, 10 ** 6):
            machine, run = Sorted(book, memory), []
            while not machine.ended():
                run.append(draw.one_of(machine.steps()))
                machine.go(run[-1])
            choice = sorted_choice_of(book, memory, run)
            self.assertIsNone(sorted_ring(book, memory, choice))
            for wrong in (run[:-1], run[1:], tuple(run), run + [("do", 0)], [list(step) for step in run] or None):
                if run:
                    check_raises(self, InvalidRun, wrong, sorted_choice_of, book, memory, wrong)
            if all(step[0] == "do" for step in run):
                self.assertEqual(choice, choice_of(book, memory, run))

    def test_stop(self):
        book = ((("store", 0, 0, 0), ("store", 0, 0, 1), ("stop",), ("gap",), ("store", 0, 0, 1)),)
        self.assertEqual(sorted_kept(book, (0, 0)), [])
        self.assertEqual(sorted_run_of(book, (0, 0), ((), ((0,), (1,))))[-1][0], "flush")
        self.assertEqual(len(sorted_run_of(book, (0, 0), ((), ((0,), (1,))))), 4)

    def test_errors(self):
        book, memory = ((("store", 0, 0, 0), ("load", 1, 0, 0)),), (5,)
        choice, run = (((1, 0),), ((0,),)), [("do", 0), ("do", 0), ("flush", 0, 0)]
        self.assertEqual(sorted_choice_of(book, memory, run), choice)
        calls = ((sorted_kept, ()), (sorted_behind, (None,)), (sorted_ring, (None,)), (sorted_choice_of, (None,)), (sorted_run_of, (None,)))
        for wrong in WRONG + (list(book), ((("load", 1, 0, 0), ("fence", 1)),)):
            for call, rest in calls:
                check_raises(self, InvalidBook, wrong, call, wrong, wrong, *rest)
        long_books = (((("jump", 0),),), ((("load", 1, 0, 0), ("load", 2, 1, 0)),), ((("stop",), ("ifzero", 0, 0)),))
        for wrong in long_books:
            self.assertFalse(is_short(wrong))
            for call, rest in calls:
                check_raises(self, NotShort, wrong, call, wrong, None, *rest)
        for wrong in WRONG + ([5], (65536,), (0,) * 33):
            for call, rest in calls:
                check_raises(self, InvalidMemory, wrong, call, book, wrong, *rest)
        for wrong in WRONG + tuple(v for v in variants(choice) if not same(v, choice) and not same(v, (((1, -1),), ((0,),)))):
            for call in (sorted_behind, sorted_ring, sorted_run_of):
                check_raises(self, InvalidChoice, wrong, call, book, memory, wrong)
        for wrong in WRONG + (tuple(run), [("do", 0), ("do", 0), ("flush", 0)], run[:2], run + run[:1]):
            check_raises(self, InvalidRun, wrong, sorted_choice_of, book, memory, wrong)
        check_raises(self, NotFree, (((1, -1),), ((0,),)), sorted_run_of, book, memory, (((1, -1),), ((0,),)))
        self.assertEqual(sorted_ring(book, memory, (((1, -1),), ((0,),)))[0], "own")

    def test_names_and_new_lists(self):
        book, memory, choice = ((("store", 0, 0, 0), ("load", 1, 0, 0)),), (5,), (((1, 0),), ((0,),))
        for call, named in ((sorted_kept, {}), (sorted_behind, {"choice": choice}), (sorted_run_of, {"choice": choice})):
            first = call(book=book, memory=memory, **named)
            first.append(None)
            self.assertEqual(call(book=book, memory=memory, **named) + [None], first)
        self.assertIsNone(sorted_ring(book=book, memory=memory, choice=choice))
        run = sorted_run_of(book, memory, choice)
        before = list(run)
        self.assertEqual(sorted_choice_of(book=book, memory=memory, run=run), choice)
        self.assertEqual(run, before)
        self.assertFalse(shares([run], [sorted_run_of(book, memory, choice)]))


if __name__ == "__main__":
    unittest.main()
