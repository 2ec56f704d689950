import unittest

from touchroad.behaviours import behaviour_end, behaviour_ends, broken
from touchroad.errors import (InvalidBehaviour, InvalidEnd, InvalidMemory, InvalidProgram, InvalidRun, NotLet, NotShort)
from touchroad.tongue import interleaved_ends
from touchroad.viewing import (viewed_behaviour, viewing_after, viewing_ended, viewing_ends, viewing_first, viewing_run, viewing_run_leads,
                               viewing_run_of, viewing_run_to, viewing_steps)
from tests import reference_programs as told
from tests.helpers import WRONG, Draw, check_boolean, check_examples, check_raises, same, shares, variants
from tests.reference import ends_in, reached_from
from tests.test_behaviours import NOT_SHORT, PASSING, UPDATES, small_programs

EXAMPLES = """
>>> from touchroad.viewing import viewing_after, viewing_ends, viewing_run, viewing_steps
>>> passing = ((("set", 1, 1), ("put", 1, 0, 0, "loose"), ("put", 1, 0, 1, "give")), (("get", 1, 0, 1, "take"), ("get", 2, 0, 0, "loose")))
>>> stand = viewing_run(passing, (0, 0), [("do", 0), ("touch", 0, 0), ("touch", 0, 0)])
>>> stand[1]
(((0, (0, 0, 0), False), (1, (1, 0, 0), False)), ((0, (0, 0, 0), False), (1, (1, 1, 0), False)), ((0, (0, 0, 0), False),))
>>> viewing_steps(passing, stand)
[('touch', 1, 0), ('touch', 1, 1)]
>>> [viewing_steps(passing, viewing_after(passing, stand, ("touch", 1, 1))), len(viewing_ends(passing, (0, 0)))]
[[('touch', 1, 1)], 3]
"""


def machines(seed, many, most=500, hands=3, size=5, names=told.STATEMENTS):
    """Drawn programs, short or not, with all stands of the viewing machine."""
    draw = Draw(seed)
    while many:
        program = told.drawn_program(draw, 1 + draw.below(hands), size, names)
        if draw.below(3) == 0:
            program = tuple(tuple(s[:2] + (draw.one_of((1, 2, 5)),) + s[3:] if s[0] in ("get", "put") else s for s in hand) for hand in program)
        memory = tuple(draw.one_of((0, 0, 1, 2)) for _ in range(1 + draw.below(2)))
        stands = reached_from(told.Viewing(program, memory), most)
        if stands is not None and len(stands) > 8:
            many -= 1
            yield draw, program, memory, stands


class Machine(unittest.TestCase):
    def test_examples(self):
        check_examples(self, EXAMPLES)

    def test_each_step_against_a_second_telling(self):
        long_programs = inserted = 0
        for draw, program, memory, stands in machines(291, 80):
            long_programs += not told.is_short(program)
            self.assertTrue(same(viewing_first(program, memory), told.Viewing(program, memory).stand()))
            for stand, machine in list(stands.items())[:80]:
                found = machine.steps()
                self.assertTrue(same(viewing_steps(program, stand), found), (program, stand))
                check_boolean(self, machine.ended(), viewing_ended(program, stand))
                for step in found:
                    other = machine.twin()
                    other.go(step)
                    self.assertTrue(same(viewing_after(program, stand, step), other.stand()), (program, stand, step))
                    inserted += step[0] == "touch" and any(
                        len(a) > len(b) and step[2] + 2 < len(a) for a, b in zip(other.stand()[1], stand[1]))
        self.assertGreater(inserted, 100)
        self.assertGreater(long_programs, 1)

    def test_what_is_not_let(self):
        for draw, program, memory, stands in machines(292, 15, 200):
            for stand, machine in list(stands.items())[:: 1 + len(stands) // 20]:
                let = machine.steps()
                tried = [("do", h) for h in range(-1, 5)] + [("touch", h, n) for h in range(-1, 4) for n in range(-2, 5)]
                tried += list(WRONG) + [v for step in let[:3] for v in variants(step)] + [
                    ("touch", 0), ("do", 0, 0), ("touch", False, 0), ("touch", 0, False), ("do", True), ["do", 0], ("flush", 0), ("touch", 0, 0, 0)]
                for step in tried:
                    if not any(same(step, other) for other in let):
                        check_raises(self, NotLet, step, viewing_after, program, stand, step)

    def test_versions_that_are_inserted(self):
        program = ((("put", 0, 5, 0, "loose"), ("put", 0, 5, 0, "loose"), ("get", 1, 5, 0, "loose")), (("set", 1, 7), ("put", 1, 5, 0, "give"),))
        stand = viewing_run(program, (3,), [("touch", 0, 0), ("touch", 0, 1)])
        self.assertEqual(stand[1][0], ((3, (0, 0), False), (0, (1, 0), False), (0, (2, 0), False)))
        self.assertEqual(stand[0][0], ((), 2, (0,) * 6, (2, 0)))
        stand = viewing_run(program, (3,), [("touch", 0, 0), ("touch", 0, 1), ("do", 1), ("touch", 1, 0)])
        self.assertEqual(stand[1][0], ((3, (0, 0), False), (7, (1, 0), False), (0, (2, 0), False), (0, (3, 0), False)))
        self.assertEqual([hand[3] for hand in stand[0]], [(3, 0), (1, 0)])
        self.assertEqual(viewing_steps(program, stand), [("touch", 0, 3)])
        last = viewing_after(program, stand, ("touch", 0, 3))
        check_boolean(self, True, viewing_ended(program, last))

    def test_updated_versions(self):
        program = ((("addto", 1, 0, 5, 0, "loose"), ("put", 0, 5, 0, "loose")), (("swap", 1, 0, 5, 0, "loose"),), (("get", 2, 5, 0, "loose"),))
        stand = viewing_run(program, (3,), [("touch", 0, 0)])
        self.assertEqual(stand[1][0], ((3, (0, 0), True), (3, (1, 0), False)))
        self.assertEqual(stand[0][0][2], (0, 3, 0, 0, 0, 0))
        # No touch that writes goes behind the updated version; a get may read it.
        self.assertEqual(viewing_steps(program, stand), [("touch", 0, 1), ("touch", 1, 1), ("touch", 2, 0), ("touch", 2, 1)])
        check_raises(self, NotLet, ("touch", 1, 0), viewing_after, program, stand, ("touch", 1, 0))

    def test_whole(self):
        program = ((("whole",),), (("whole",), ("get", 1, 5, 0, "loose")), (("put", 1, 5, 0, "loose"), ("whole",)))
        self.assertEqual(viewing_steps(program, viewing_first(program, (3,))), [("touch", 0, 0), ("touch", 1, 0), ("touch", 2, 0)])
        stand = viewing_run(program, (3,), [("touch", 2, 0), ("touch", 2, 0), ("touch", 1, 1)])
        self.assertEqual(stand[1][1], ((0, (0, 0), True), (0, (1, 1), True), (0, (1, 2), False)))
        self.assertEqual(stand[0][1], ((), 1, (0,) * 6, (1, 2)))
        self.assertEqual(viewing_steps(program, stand), [("touch", 0, 2), ("touch", 1, 1)])

    def test_await_and_branches(self):
        program = ((("set", 1, 1), ("put", 1, 5, 0, "loose")), (("set", 2, 1), ("await", 2, 5, 0, "take"), ("if", 3, (), (("set", 4, 9),)), ("again", 2, ())))
        waiting = viewing_run(program, (0,), [("do", 1)])
        self.assertEqual(viewing_steps(program, waiting), [("do", 0)])
        check_raises(self, NotLet, ("touch", 1, 0), viewing_after, program, waiting, ("touch", 1, 0))
        stand = viewing_run(program, (0,), [("do", 1), ("do", 0), ("touch", 0, 0)])
        self.assertEqual(viewing_steps(program, stand), [("touch", 1, 1)])
        stand = viewing_run(program, (0,), [("do", 1), ("do", 0), ("touch", 0, 0), ("touch", 1, 1), ("do", 1)])
        self.assertEqual(stand[0][1], ((False,), 3, (0, 0, 1, 0, 0, 0), (1, 0)))
        stand = viewing_after(program, stand, ("do", 1))
        self.assertEqual(stand[0][1], ((False,), 4, (0, 0, 1, 0, 9, 0), (1, 0)))
        check_boolean(self, True, viewing_ended(program, stand))
        self.assertEqual(viewing_ends(((("await", 0, 5, 0, "loose"),),), (3,)), [])
        check_boolean(self, False, viewing_ended(((("await", 0, 5, 0, "loose"),),), viewing_first(((("await", 0, 5, 0, "loose"),),), (3,))))

    def test_runs_are_refused_at_the_step_that_is_not_let(self):
        good = [("do", 0), ("touch", 0, 0), ("touch", 0, 0), ("touch", 1, 1), ("touch", 1, 1)]
        check_boolean(self, True, viewing_ended(PASSING, viewing_run(PASSING, (0, 0), good)))
        for at in range(len(good) + 1):
            for wrong in (("touch", 0, 2), ("touch", 0, False), ["do", 0], ("do", 1), None, ("touch", 2, 0), ("do", -1)):
                check_raises(self, NotLet, wrong, viewing_run, PASSING, (0, 0), good[:at] + [wrong, ("do", 9)])
        check_raises(self, NotLet, ("touch", 1, 0), viewing_run, PASSING, (0, 0), good[:4] + [("touch", 1, 0)])


class Runs(unittest.TestCase):
    def test_ends_and_runs_against_a_plain_search(self):
        for draw, program, memory, stands in machines(293, 60):
            found = ends_in(stands)
            self.assertTrue(same(viewing_ends(program, memory), found))
            self.assertTrue(set(interleaved_ends(program, memory)) <= set(found))
            for end in found[:6]:
                run = viewing_run_to(program, memory, end)
                stand = viewing_run(program, memory, run)
                self.assertEqual((tuple(hand[2] for hand in stand[0]), tuple(cell[-1][0] for cell in stand[1][:-1])), end)
                check_boolean(self, True, viewing_run_leads(program, memory, end, run))
                self.check_changed(draw, program, memory, end, run)
                for other in ((end[0], tuple((word + 1) % 65536 for word in end[1])), (end[0][::-1], end[1])):
                    check_boolean(self, other == end, viewing_run_leads(program, memory, other, run))
                    if other not in found:
                        self.assertIsNone(viewing_run_to(program, memory, other))

    def check_changed(self, draw, program, memory, end, run):
        at = draw.below(len(run) + 1)
        options = [("do", draw.below(3)), ("touch", draw.below(3), draw.below(3)), ("touch", draw.below(3), draw.below(3)), None, ("do", True)]
        for other in [run[:at] + [step] + run[at + more:] for step in options for more in (0, 1)] + [run[:at], run[at:], run[::-1]]:
            machine, good = told.Viewing(program, memory), True
            for step in other:
                good = good and any(same(step, let) for let in machine.steps())
                if good:
                    machine.go(step)
            good = good and machine.ended() and machine.end() == end
            check_boolean(self, good, viewing_run_leads(program, memory, end, other))

    def test_behaviours_of_runs(self):
        """V1: the behaviours of the runs are exactly the consistent ones, with the ends of the runs."""
        for names, seed in ((told.STATEMENTS, 294), (UPDATES, 295)):
            for draw, program, memory in small_programs(seed, 35, 120, names=names):
                self.assertEqual(behaviour_ends(program, memory), viewing_ends(program, memory))
                for behaviour in told.all_behaviours(program, memory):
                    if broken(program, memory, behaviour) is not None:
                        check_raises(self, InvalidBehaviour, behaviour, viewing_run_of, program, memory, behaviour)
                        continue
                    run = viewing_run_of(program, memory, behaviour)
                    self.assertIs(type(run), list)
                    check_boolean(self, True, viewing_run_leads(program, memory, behaviour_end(program, memory, behaviour), run))
                    self.assertTrue(same(viewed_behaviour(program, memory, run), behaviour))
                for _ in range(8):
                    self.check_drawn_run(draw, program, memory)

    def check_drawn_run(self, draw, program, memory):
        machine, run, made, sources = told.Viewing(program, memory), [], [], {}
        while machine.steps():
            run.append(draw.one_of(machine.steps()))
            h, action = run[-1][1], machine.next(run[-1][1])
            if action[0] in told.TOUCHES:
                own = (h, machine.done[h])
                made.append(own)
                cell = told.cell_of(action, machine.words[h], len(memory))
                if action[0] in told.READS:
                    sources[own] = machine.cells[cell][run[-1][2]]
            machine.go(run[-1])
        if not machine.ended():
            check_raises(self, InvalidRun, run, viewed_behaviour, program, memory, run)
            return
        number = {name: at for at, name in enumerate(sorted(made))}
        behaviour = (tuple(machine.path), tuple(sorted((number[own], number.get(source, -1)) for own, source in sources.items())),
                     tuple(tuple(number[name] for name in names[1:]) for names in machine.cells))
        self.assertTrue(same(viewed_behaviour(program, memory, run), behaviour))
        self.assertIsNone(broken(program, memory, behaviour))
        self.assertEqual(behaviour_end(program, memory, behaviour), machine.end())
        for wrong in (run[:-1], tuple(run), run + run[:1], run + [("do", 0)], [list(step) for step in run]):
            if run:
                check_raises(self, InvalidRun, wrong, viewed_behaviour, program, memory, wrong)

    def test_other_objects(self):
        end = (((0, 1, 0, 0, 0, 0), (0, 1, 1, 0, 0, 0)), (1, 1))
        run = [("do", 0), ("touch", 0, 0), ("touch", 0, 0), ("touch", 1, 1), ("touch", 1, 1)]
        check_boolean(self, True, viewing_run_leads(PASSING, (0, 0), end, run))
        for wrong in WRONG + (tuple(run), [list(step) for step in run], run[:-1], run + run[-1:], [("do", False)] + run[1:], run[:1] * 2 + run[1:],
                              run[:-1] + [("touch", True, 1)], run[:-1] + [("touch", 1, True)], run[:-1] + [("touch", 1, 0)]):
            check_boolean(self, False, viewing_run_leads(PASSING, (0, 0), end, wrong))
            check_raises(self, InvalidRun, wrong, viewed_behaviour, PASSING, (0, 0), wrong)
        good = (((), ()), ((2, 1), (3, 0)), ((0,), (1,), ()))
        early = (((), ()), ((2, 1), (3, -1)), ((0,), (1,), ()))
        self.assertEqual(viewed_behaviour(PASSING, (0, 0), viewing_run_of(PASSING, (0, 0), good)), good)
        for wrong in WRONG + (early, good + ((),), list(good), good[:2] + (((0,), (1,)),)):
            check_raises(self, InvalidBehaviour, wrong, viewing_run_of, PASSING, (0, 0), wrong)

    def test_errors(self):
        stand = viewing_first(PASSING, (0, 0))
        calls = ((viewing_first, ()), (viewing_run, ([None],)), (viewing_ends, ()), (viewing_run_to, (None,)), (viewing_run_leads, (None, None)),
                 (viewed_behaviour, (None,)), (viewing_run_of, (None,)))
        for wrong in WRONG + ([()], ((("get", 0, 0, 0, "give"),),)):
            for call, rest in calls:
                check_raises(self, InvalidProgram, wrong, call, wrong, wrong, *rest)
            check_raises(self, InvalidProgram, wrong, viewing_steps, wrong, stand)
            check_raises(self, InvalidProgram, wrong, viewing_after, wrong, stand, None)
            check_raises(self, InvalidProgram, wrong, viewing_ended, wrong, stand)
        for wrong in WRONG + ([0], (True,), (0,) * 33):
            for call, rest in calls:
                check_raises(self, InvalidMemory, wrong, call, PASSING, wrong, *rest)
        for wrong in NOT_SHORT:
            check_raises(self, NotShort, wrong, viewed_behaviour, wrong, None, None)
            check_raises(self, NotShort, wrong, viewing_run_of, wrong, None, None)
            self.assertGreater(len(viewing_ends(wrong, (0, 0))), 0)
        end = (((0,) * 6, (0,) * 6), (0, 0))
        for wrong in WRONG + (end[0], (end[0], (0,)), (end[0][:1], (0, 0)), (((0,) * 8,) * 2, (0, 0)), (end[0], [0, 0]), (end[0], (0, True))):
            check_raises(self, InvalidEnd, wrong, viewing_run_to, PASSING, (0, 0), wrong)
            check_raises(self, InvalidEnd, wrong, viewing_run_leads, PASSING, (0, 0), wrong, None)

    def test_names_and_new_lists(self):
        stand = viewing_first(program=PASSING, memory=(0, 0))
        viewing_steps(program=PASSING, stand=stand).clear()
        self.assertEqual(viewing_steps(PASSING, stand), [("do", 0), ("touch", 1, 0)])
        stand = viewing_after(program=PASSING, stand=stand, step=("do", 0))
        check_boolean(self, False, viewing_ended(program=PASSING, stand=stand))
        steps = [("do", 0), ("touch", 0, 0)]
        viewing_run(program=PASSING, memory=(0, 0), steps=steps)
        self.assertEqual(steps, [("do", 0), ("touch", 0, 0)])
        ends = viewing_ends(program=PASSING, memory=(0, 0))
        run = viewing_run_to(program=PASSING, memory=(0, 0), end=ends[0])
        check_boolean(self, True, viewing_run_leads(program=PASSING, memory=(0, 0), end=ends[0], value=run))
        before = list(run)
        behaviour = viewed_behaviour(program=PASSING, memory=(0, 0), run=run)
        self.assertEqual(run, before)
        again = viewing_run_of(program=PASSING, memory=(0, 0), behaviour=behaviour)
        self.assertFalse(shares([again], [viewing_run_of(PASSING, (0, 0), behaviour)]))
        self.assertEqual(viewing_ends(((),), (4,)), [(((0,) * 6,), (4,))])
        self.assertEqual(viewing_run_to(((),), (4,), (((0,) * 6,), (4,))), [])


if __name__ == "__main__":
    unittest.main()
