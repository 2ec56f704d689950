"""What the document promises over the whole program: its interface, and how programs, books and machines hang together."""

import contextlib
import importlib
import inspect
import io
import os
import re
import unittest

import touchroad.errors
from touchroad.behaviours import behaviour_ends, behaviour_to
from touchroad.certificates import decide
from touchroad.chain import ends_of
from touchroad.desk import Desk
from touchroad.ends import ends, run_to
from touchroad.exchanges import all_rewritten, counterexample, rewrites, rewritten
from touchroad.fast import bridge, seen, steady
from touchroad.histories import history_of_run, linearized
from touchroad.live import Live
from touchroad.plain import has_ended, plain_run
from touchroad.road import (behaviour_of_run, behaviour_of_sorted_run, end_up, outside, outside_shown, bare_book, plain_book, sorted_book,
                            viewing_of_run, viewing_of_sorted_run)
from touchroad.roads import Road, sorted_outside, sorted_outside_shown
from touchroad.reading import read_run
from touchroad.shapes import lost_run
from touchroad.sortedmachine import sorted_ends, sorted_run_to
from touchroad.tongue import is_short
from touchroad.viewing import viewing_ends, viewing_run_leads
from tests import reference_programs as told
from tests.helpers import Draw, leads_on, lively_book, same
from tests.reference import all_stands
from tests.reference_road import book_of
from tests.test_behaviours import PASSING
from tests.test_road import CROSSED, PLANS

FUNCTIONS = {
    "books": "is_instruction(value,rows) is_book(value) is_plan(value) is_memory(value) reads(instruction) writes(instruction) cell_of(cells,base,offset) "
             "result(instruction,words)",
    "assembler": "assemble(source) source_of(book)",
    "plain": "plain_first(book,memory) plain_steps(book,stand) plain_after(book,stand,step) plain_run(book,memory,steps) has_stopped(book,stand,core) "
             "has_ended(book,stand) one_row_run(book,memory,cores)",
    "copies": "copies_first(plan,memory,cores) copies_deeds(plan,copies) copies_after(plan,copies,deed) word_now(plan,copies,cell) memory_now(plan,copies) "
              "state_of(copies,core,line) fits(plan,copies)",
    "fast": "first(plan,book,memory) deeds(plan,book,stand) after(plan,book,stand,deed) seen(plan,stand) told(plan,book,stand,deed) run_by(plan,book,memory,weather) "
            "steady(plan,book,memory,turns) bridge(plan,book,memory,done) is_bridge(plan,book,memory,done,value)",
    "ends": "ends(book,memory) run_to(book,memory,end) run_leads(book,memory,end,value) one_row_ends(book,memory) one_row_run_to(book,memory,end) "
            "one_row_run_leads(book,memory,end,value) late_end(book,memory) always(book,memory,core,number) never_ends(book,memory)",
    "events": "is_short(book) events(book,memory) kept(book,memory) behind(book,memory,choice) own_behind(book,memory,choice) ring(book,memory,choice) "
              "end_of(book,memory,choice) choice_of(book,memory,run) run_of(book,memory,choice)",
    "papers": "comes(book,memory,end) paper_takes(book,memory,end,value) paper_size(paper)",
    "fences": "fenced(book,places) as_one_row(book,memory) least_fences(book,memory) one_row_for_all(book,cells) bad_choice(book,cells) least_for_all(book,cells)",
    "races": "race(book,memory) late_race(book,memory) race_shown(book,memory,value) late_race_shown(book,memory,value)",
    "sortedmachine": "sorted_first(book,memory) sorted_steps(book,stand) sorted_after(book,stand,step) sorted_run(book,memory,steps) sorted_ended(book,stand) "
                     "sorted_ends(book,memory) sorted_run_to(book,memory,end) sorted_run_leads(book,memory,end,value)",
    "sortedevents": "sorted_kept(book,memory) sorted_behind(book,memory,choice) sorted_ring(book,memory,choice) sorted_choice_of(book,memory,run) "
                    "sorted_run_of(book,memory,choice)",
    "chain": "ends_of(machine,book,memory) parting(one,other,book,memory) gapped(book,places) barred(book,fences,gaps) least_gaps(book,memory) least_bars(book,memory) "
             "plain_for_all(book,cells) bad_sorted_choice(book,cells) least_gaps_for_all(book,cells)",
    "tongue": "is_statement(value) is_program(value) paths_of(program) actions_of(program,paths) is_short(program) interleaved_ends(program,memory)",
    "behaviours": "events_of(program,memory,paths) happens_before(program,memory,behaviour) broken(program,memory,behaviour) is_broken(program,memory,behaviour,value) "
                  "behaviour_end(program,memory,behaviour) behaviour_ends(program,memory) behaviour_to(program,memory,end)",
    "viewing": "viewing_first(program,memory) viewing_steps(program,stand) viewing_after(program,stand,step) viewing_run(program,memory,steps) "
               "viewing_ended(program,stand) viewing_ends(program,memory) viewing_run_to(program,memory,end) viewing_run_leads(program,memory,end,value) "
               "viewed_behaviour(program,memory,run) viewing_run_of(program,memory,behaviour)",
    "certificates": "decide(program,memory,end) certifies(program,memory,end,value) certificate_size(value)",
    "road": "plain_book(program) sorted_book(program) bare_book(program) end_up(program,end) behaviour_of_run(program,memory,run) "
            "behaviour_of_sorted_run(program,memory,run) viewing_of_run(program,memory,run) viewing_of_sorted_run(program,memory,run) outside(program,book,memory) "
            "outside_shown(program,book,memory) is_outside(program,book,memory,value) least_wholes(program,memory)",
    "histories": "is_history(kind,value) initial_state(kind) state_after(kind,state,call) linearized(kind,history) linearization_holds(kind,history,value) "
                 "refutation_holds(kind,history,value) linearizations(kind,history) linearization_at(kind,history,number) "
                 "linearization_place(kind,history,linearization) queue_fault(history) queue_fault_holds(history,value) register_fault(history) "
                 "register_fault_holds(history,value) history_of_run(book,memory,run,cell)",
    "texts": "show_memory(memory) show_end(end) show_run(run) show_stand(stand) show_paper(paper) show_program(program) show_program_end(end) show_history(history)",
    "reading": "read_memory(text) read_end(text) read_run(text) read_paper(text) read_program(text) read_program_end(text) read_history(kind,text)",
    "shapes": "counter_program(hands,rounds,mode) ticket_program(hands,rounds,taking,giving) mailbox_program(words,taking,giving) "
              "lost_run(hands,rounds,taking,giving) lost_run_leads(hands,rounds,taking,giving,value)",
    "exchanges": "can_exchange(one,other) rewrites(program,cells) rewritten(program,cells,rewrite) all_rewritten(program,cells,most) counterexample(one,other) "
                 "counterexample_holds(one,other,value)",
    "live": "Live(plan,book,memory)",
    "roads": "sorted_outside(program,book,memory) sorted_outside_shown(program,book,memory) is_sorted_outside(program,book,memory,value) "
             "least_road_gaps(program,memory) Road(plan,program,memory)",
    "desk": "Desk()",
}
METHODS = {
    Live: "deed(deed) deeds() go(number,most) back() twin() plain() steps() now(cell) held(core,number) watch(cell) taken_back() __len__() __eq__(other)",
    Road: "rest(turns) climb()",
    Desk: "execute(line)",
}
PROPERTIES = {Live: ("stand", "plan", "book", "story"), Road: ("live",), Desk: ()}


def named(text):
    """The (name, parameters) of a list of calls."""
    for call in text.split():
        name, rest = call[:-1].split("(")
        yield name, [part for part in rest.split(",") if part]


class Interface(unittest.TestCase):
    def check_parameters(self, call, expected):
        found = list(inspect.signature(call).parameters.values())
        self.assertEqual([parameter.name for parameter in found], expected, call)
        for parameter in found:
            self.assertEqual((parameter.kind, parameter.default), (parameter.POSITIONAL_OR_KEYWORD, parameter.empty), call)

    def test_functions_and_classes(self):
        self.assertEqual(len(FUNCTIONS), 26)
        for module, text in FUNCTIONS.items():
            for name, parameters in named(text):
                one = getattr(importlib.import_module("touchroad." + module), name)
                self.assertEqual((one.__module__, one.__name__), ("touchroad." + module, name))
                self.check_parameters(one, parameters)

    def test_methods_stand_in_their_class(self):
        for kind, text in METHODS.items():
            self.assertEqual(kind.__bases__, (object,))
            for name, parameters in named(text):
                self.assertIn(name, vars(kind))
                self.check_parameters(vars(kind)[name], ["self"] + parameters)
            for name in PROPERTIES[kind]:
                self.assertIsInstance(vars(kind)[name], property)
            public = {name for name in vars(kind) if not name.startswith("_")}
            self.assertEqual(public, {name for name, _ in named(text) if not name.startswith("_")} | set(PROPERTIES[kind]))

    def test_errors(self):
        for name, one in vars(touchroad.errors).items():
            if isinstance(one, type):
                self.check_parameters(one, ["value"])
                self.assertEqual(one.__module__, "touchroad.errors")


def programs(seed, many, most=400):
    """Drawn programs, short or not, whose machines have few stands."""
    draw = Draw(seed)
    while many:
        program = told.drawn_program(draw, 1 + draw.below(3), 3)
        if draw.below(4) == 0:
            program = tuple(tuple(s[:2] + (draw.one_of((1, 5)),) + s[3:] if s[0] in ("get", "put") else s for s in hand) for hand in program)
        memory = (draw.below(2), draw.below(2))
        book = book_of("plain", program)
        if max(map(len, book)) <= 40 and all_stands(book, memory, most=most) is not None and len(told.paths_of(program)) <= 16:
            many -= 1
            yield draw, program, memory


class Guarantees(unittest.TestCase):
    def test_all_levels(self):
        """Each end of each machine on the books of a program belongs to runs of the others, up to the behaviours."""
        short = 0
        for draw, program, memory in programs(401, 70):
            book = plain_book(program)
            one_row, plain, late = [set(ends_of(machine, book, memory)) for machine in ("one row", "plain", "sorted")]
            self.assertTrue(one_row <= plain <= late)
            viewed = set(viewing_ends(program, memory))
            self.assertTrue({end_up(program, end) for end in plain} <= viewed)
            self.assertTrue({end_up(program, end) for end in sorted_ends(sorted_book(program), memory)} <= viewed)
            plan = draw.one_of(PLANS)
            _, stand = steady(plan, book, memory, 4000)
            plain_stand = seen(plan, stand)
            if has_ended(book, plain_stand):
                self.assertIn((tuple(core[1] for core in plain_stand[0]), plain_stand[1]), plain)
            elif leads_on(book):
                self.fail((plan, program, memory))
            if not is_short(program) or told.how_many(program, memory) > 300:
                continue
            short += 1
            self.assertEqual(set(behaviour_ends(program, memory)), viewed)
            for end in sorted(viewed)[:3]:
                self.assertEqual(decide(program, memory, end)[0], "behaviour")
                self.assertIsNotNone(behaviour_to(program, memory, end))
            self.assertIsNone(outside(program, book, memory))
            self.assertIsNone(sorted_outside(program, sorted_book(program), memory))
        self.assertGreater(short, 25)

    def test_every_timing(self):
        """Whatever deeds a fast machine does, its run belongs to a run of the viewing machine with the same end."""
        ended = 0
        for draw, program, memory in programs(402, 40):
            road = Road(draw.one_of(PLANS), program, memory)
            for _ in range(draw.below(12)):
                road.live.go(draw.below(10 ** 12), draw.below(20))
                road.rest(draw.below(6))
            if not road.rest(2500):
                continue
            ended += 1
            steps, behaviour, viewing, end = road.climb()
            self.assertTrue(same(steps, bridge(road.live.plan, road.live.book, memory, list(road.live.story))))
            self.assertTrue(same(plain_run(road.live.book, memory, steps), road.live.plain()))
            self.assertTrue(viewing_run_leads(program, memory, end, viewing))
            self.assertEqual(behaviour is None, not is_short(program))
        self.assertGreater(ended, 25)

    def test_rewritten_programs_on_the_road(self):
        """What the books of a rewritten program do, the viewing machine does on the program before the rewrite."""
        tried = 0
        for draw, program, memory in programs(403, 120, 200):
            for rewrite in rewrites(program, 2):
                after = rewritten(program, 2, rewrite)
                tried += 1
                viewed = set(viewing_ends(program, memory))
                self.assertTrue({end_up(after, end) for end in sorted_ends(sorted_book(after), memory)} <= viewed, (program, rewrite))
        self.assertGreater(tried, 5)

    def test_histories_of_fast_machines(self):
        draw, many = Draw(404), 0
        while many < 25:
            book = lively_book(draw, 2, 5, ("store", "load", "gap", "store", "load", "fence"))
            done, stand = steady((2, 1, 2, 2, 4), book, (0, 0), 2000)
            try:
                history = history_of_run(book, (0, 0), bridge((2, 1, 2, 2, 4), book, (0, 0), done), draw.below(2))
            except ValueError:
                continue
            many += 1
            self.assertEqual(linearized("register", history)[0], "linearization")


class Readme(unittest.TestCase):
    def test_what_it_shows(self):
        """The pieces of code in README.md run one after the other, and print what stands beside them."""
        with open(os.path.join(os.path.dirname(os.path.dirname(os.path.abspath(__file__))), "README.md"), encoding="utf-8") as file:
            text = file.read()
        names, told_ = {}, io.StringIO()
        with contextlib.redirect_stdout(told_):
            for code in re.findall(r"```python\n(.*?)```", text, re.S):
                exec(code, names)
        lines = told_.getvalue().split("\n")
        for line in ("4", "paper True", "3", "certificate True", "True", "refutation ('overtaken', 0, 1)"):
            self.assertIn(line, lines)
        for module in FUNCTIONS:
            self.assertIn(f"| `touchroad.{module}` |", text)


class WhatIsReturned(unittest.TestCase):
    def test_lists_are_new(self):
        book, bare = plain_book(PASSING), bare_book(CROSSED)
        run, late = run_to(book, (0, 0), ends(book, (0, 0))[0]), sorted_run_to(sorted_book(PASSING), (0, 0), sorted_ends(sorted_book(PASSING), (0, 0))[0])
        road = Road((2, 1, 2, 2, 4), PASSING, (0, 0))
        road.rest(500)
        live = road.live
        calls = (lambda: viewing_of_run(PASSING, (0, 0), run), lambda: viewing_of_sorted_run(PASSING, (0, 0), late), lambda: outside_shown(CROSSED, bare, (0, 0))[0],
                 lambda: sorted_outside_shown(PASSING, book, (0, 0))[0], lambda: lost_run(2, 1, "take", "loose"), lambda: rewrites(CROSSED, 2),
                 lambda: all_rewritten(CROSSED, 2, 9), lambda: read_run("do 0, do 1"), live.deeds, live.steps, lambda: live.watch(0),
                 lambda: road.climb()[0], lambda: road.climb()[2])
        for call in calls:
            one, other = call(), call()
            self.assertIs(type(one), list)
            self.assertTrue(same(one, other))
            one.append("more")
            self.assertTrue(same(call(), other))

    def test_arguments_are_not_changed(self):
        book = plain_book(PASSING)
        run, late = run_to(book, (0, 0), ends(book, (0, 0))[0]), sorted_run_to(sorted_book(PASSING), (0, 0), sorted_ends(sorted_book(PASSING), (0, 0))[0])
        before = repr((run, late))
        viewing_of_run(PASSING, (0, 0), run)
        behaviour_of_run(PASSING, (0, 0), run)
        viewing_of_sorted_run(PASSING, (0, 0), late)
        behaviour_of_sorted_run(PASSING, (0, 0), late)
        history_of_run(book, (0, 0), run, 0)
        self.assertEqual(repr((run, late)), before)

    def test_the_same_call_has_the_same_answer(self):
        for one, other in ((("get", "take"), ("put", "loose")), (("whole",), ("get", "loose"))):
            self.assertTrue(same(counterexample(one, other), counterexample(one, other)))


if __name__ == "__main__":
    unittest.main()
