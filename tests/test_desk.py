import unittest

from touchroad.assembler import assemble, source_of
from touchroad.behaviours import behaviour_ends
from touchroad.certificates import decide
from touchroad.desk import Desk
from touchroad.ends import ends, late_end
from touchroad.errors import (InvalidBook, InvalidCommand, InvalidEnd, InvalidMemory, InvalidNumber, MachineError, NotReady, NotShort, Nothing, TooLong)
from touchroad.exchanges import rewrites
from touchroad.fences import least_fences
from touchroad.histories import linearization_at
from touchroad.live import Live
from touchroad.papers import comes
from touchroad.plain import has_ended
from touchroad.races import race
from touchroad.road import end_up, least_wholes, outside, plain_book
from touchroad.texts import show_end, show_history, show_memory, show_paper, show_program, show_program_end, show_run, show_stand
from tests import reference_histories as shared
from tests import reference_programs as told
from tests.helpers import STRAIGHT_NAMES, WRONG, Draw, check_examples, check_raises, drawn_book, lively_book
from tests.reference import all_stands
from tests.test_behaviours import small_programs
from tests.test_chain import books
from tests.test_road import CROSSED

EXAMPLES = """
>>> from touchroad.desk import Desk
>>> desk = Desk()
>>> [desk.execute(line) for line in ["plan 2 1 2 2 4", "memory 0 0", "source core ; set r1 1 ; store r1 r0 0 ; load r2 r0 1 ; core ; set r1 1 ; store r1 r0 1 ; load r2 r0 0", "late", "fences", "race", "start", "go 0 1", "now 1"]]
['ok', 'ok', 'ok', 'r1=1 ; r1=1 | 1 1', '2 ; 2', '0 0 1 | 0 1', 'ok', '1', '0']
>>> [desk.execute(line) for line in ["memory 0", "program set 1 1 ; put 1 0 0 loose || get 1 0 0 loose", "can", "outside", "linearize queue 0 put 5 - 0 3 ; 1 put 6 - 1 4 ; 0 take 6 5 6"]]
['ok', 'ok', 'r1=1 ; - | 1 / r1=1 ; r1=1 | 1', '-', '1 0 2']
"""

CROSS = "source core ; set r1 1 ; store r1 r0 0 ; load r2 r0 1 ; core ; set r1 1 ; store r1 r0 1 ; load r2 r0 0"
PASS = "program set 1 1 ; put 1 0 0 loose ; put 1 0 1 give || get 1 0 1 take ; get 2 0 0 loose"
END, PROGRAM_END = "r1=1 ; r1=1 | 1 1", "r1=1 ; r1=1 | 1 1"
SETTING = ("plan 2 1 2 2 4", "memory 0 0", CROSS, PASS, "start")
ALONE = ("start", "back", "steps", "seen", "ends", "late", "fences", "race", "can", "outside", "wholes", "rewrites", "climb")
WITH_WORDS = ("plan 2 1 2 2 4", "memory 0 0", CROSS, "go 0 1", "now 0", "register 0 0", "against " + END, PASS, "decide " + PROGRAM_END, "linearize queue -")
NEEDS = {
    "start": ("plan", "book", "memory"), "go 0 1": ("live",), "back": ("live",), "now 0": ("live",), "register 0 0": ("live",), "steps": ("live",), "seen": ("live",),
    "ends": ("book", "memory"), "late": ("book", "memory"), "against " + END: ("book", "memory"), "fences": ("book", "memory"), "race": ("book", "memory"),
    "can": ("program", "memory"), "decide " + PROGRAM_END: ("program", "memory"), "outside": ("program", "book", "memory"), "wholes": ("program", "memory"),
    "rewrites": ("program", "memory"), "climb": ("program", "live")}


def source(book):
    return "source " + source_of(book).replace("\n", " ; ")


def desk_with(*lines):
    desk = Desk()
    for line in lines:
        desk.execute(line)
    return desk


def places(value):
    return " ; ".join(" ".join(map(str, rows)) or "-" for rows in value)


class Case(unittest.TestCase):
    def said(self, desk, line):
        answer = desk.execute(line)
        self.assertIs(type(answer), str)
        return answer

    def refused(self, desk, kind, line, value):
        """The command raises the error and changes nothing."""
        before = self.state(desk)
        check_raises(self, kind, value, desk.execute, line)
        self.assertEqual(self.state(desk), before)

    def state(self, desk):
        """What the desk says of all that it has."""
        told_ = []
        for line in ("seen", "steps", "ends", "late", "rewrites", "outside", "can", "climb", "race"):
            try:
                told_.append(desk.execute(line))
            except MachineError as error:
                told_.append((type(error).__name__, repr(error.value)))
        return told_


class Commands(Case):
    def test_examples(self):
        check_examples(self, EXAMPLES)

    def test_what_sets_something(self):
        desk = Desk()
        for line in SETTING:
            self.assertEqual(self.said(desk, line), "ok")
        self.assertEqual(self.said(desk, "seen"), "0: - < - ; 0: - < - | 0 0")
        # A Live stays until the next start, whatever is set.
        for line in ("plan 4 2 1 1 1", "memory 1 2 3 4", "source core ; stop", "program -"):
            self.assertEqual(self.said(desk, line), "ok")
        self.assertEqual(self.said(desk, "seen"), "0: - < - ; 0: - < - | 0 0")
        self.assertEqual(self.said(desk, "start"), "ok")
        self.assertEqual(self.said(desk, "seen"), "0: - < - | 1 2 3 4")
        # A later source replaces the book and not the program.
        desk = desk_with("memory 0", "program whole", "source core ; set r1 7")
        self.assertEqual([self.said(desk, line) for line in ("ends", "can")], ["r1=7 | 0", "- | 0"])
        self.assertEqual(self.said(desk, "outside"), "r1=7 | 0")
        # A later program replaces both.
        desk.execute("program set 2 2")
        self.assertEqual([self.said(desk, line) for line in ("ends", "can", "outside")], ["r2=2 | 0", "r2=2 | 0", "-"])
        self.assertEqual(desk.execute(line="memory 5"), "ok")
        self.assertEqual(desk.execute("ends"), "r2=2 | 5")

    def test_the_live(self):
        draw = Draw(391)
        for number in range(25):
            plan = draw.one_of(((2, 1, 2, 2, 4), (4, 2, 1, 1, 6), (1, 1, 1, 1, 1)))
            book = (lively_book if number % 2 else drawn_book)(draw, 1 + draw.below(3), 8)
            memory = tuple(draw.word() for _ in range(plan[0]))
            desk = desk_with("plan " + " ".join(map(str, plan)), "memory " + show_memory(memory), source(book), "start")
            live = Live(plan, book, memory)
            for _ in range(8):
                number, most = draw.one_of((0, draw.below(10 ** 9), 10 ** 30 - 1)), draw.below(25)
                self.assertEqual(self.said(desk, f"go {number} {most}"), str(most))
                live.go(number, most)
                if len(live) and draw.below(2):
                    self.assertEqual(self.said(desk, "back"), "ok")
                    live.back()
                self.assertEqual(self.said(desk, "seen"), show_stand(live.plain()))
                self.assertEqual(self.said(desk, "steps"), show_run(live.steps()))
                for cell in range(plan[0]):
                    self.assertEqual(self.said(desk, f"now {cell}"), str(live.now(cell)))
                for core in range(len(book)):
                    for register in range(8):
                        self.assertEqual(self.said(desk, f"register {core} {register}"), str(live.held(core, register)))
            self.assertRaises(InvalidNumber, desk.execute, f"now {plan[0]}")
            self.assertRaises(InvalidNumber, desk.execute, f"register {len(book)} 0")
            self.assertRaises(InvalidNumber, desk.execute, "register 0 8")

    def test_the_book(self):
        races, lates, all_places = set(), set(), set()
        for draw, book, memory in books(392, 60):
            desk = desk_with("memory " + show_memory(memory), source(book))
            self.assertEqual(self.said(desk, "ends"), " / ".join(show_end(end) for end in ends(book, memory)) or "-")
            late = late_end(book, memory)
            self.assertEqual(self.said(desk, "late"), "-" if late is None else show_end(late))
            found = race(book, memory)
            text = "none" if found is None else " ".join(map(str, found[0])) or "-"
            self.assertEqual(self.said(desk, "race"), text + f" | {found[1]} {found[2]}" if found else text)
            if len(all_stands(book, memory)) <= 150:
                self.assertEqual(self.said(desk, "fences"), places(least_fences(book, memory)))
                all_places.add(self.said(desk, "fences"))
            races.add(found and bool(found[0]))
            lates.add(late is None)
        self.assertEqual((races, lates), ({None, True, False}, {True, False}))
        self.assertGreater(len(all_places), 2)
        self.assertEqual(desk_with("memory 0", "source core ; l0: ; jump l0").execute("ends"), "-")

    def test_against(self):
        draw, kinds = Draw(393), set()
        for _ in range(25):
            book = drawn_book(draw, 2, 4, STRAIGHT_NAMES)
            desk = desk_with("memory 0 0", source(book))
            for end in ends(book, (0, 0))[:2] + [(((0,) * 8,) * len(book), (1, 0))]:
                try:
                    kind, found = comes(book, (0, 0), end)
                except MachineError:
                    continue
                kinds.add(kind)
                answer = self.said(desk, "against " + show_end(end))
                self.assertEqual(answer, f"run {show_run(found)}" if kind == "run" else f"paper {show_paper(found)}")
        self.assertEqual(kinds, {"run", "paper"})
        self.assertEqual(desk_with("memory 0", "source core").execute("against - | 0"), "run -")

    def test_the_program(self):
        outsides, decided = set(), set()
        for draw, program, memory in small_programs(394, 50, 60, size=3):
            desk = desk_with("memory " + show_memory(memory), "program " + show_program(program))
            found = behaviour_ends(program, memory)
            self.assertEqual(self.said(desk, "can"), " / ".join(map(show_program_end, found)) or "-")
            self.assertEqual(self.said(desk, "outside"), "-")
            self.assertEqual(self.said(desk, "ends"), " / ".join(show_end(end) for end in ends(plain_book(program), memory)) or "-")
            self.assertEqual(self.said(desk, "rewrites"), " / ".join(f"{h} {i} {name}" for h, i, name in rewrites(program, len(memory))) or "-")
            for end in found[:2] + [(((9,) * 6,) * len(program), memory)]:
                self.assertEqual(self.said(desk, "decide " + show_program_end(end)), decide(program, memory, end)[0])
                decided.add(decide(program, memory, end)[0])
            other = "source " + " ; ".join(["core ; set r5 9"] * len(program))
            self.said(desk, other)
            end = outside(program, assemble(other[7:].replace(" ; ", "\n")), memory)
            self.assertEqual(self.said(desk, "outside"), "-" if end is None else show_end(end))
            outsides.add(end is None)
        self.assertEqual(decided, {"behaviour", "certificate"})
        self.assertIn(False, outsides)
        desk = desk_with("memory 0 0", "program " + show_program(CROSSED))
        self.assertEqual(self.said(desk, "wholes"), "2 ; 2")
        self.assertEqual(self.said(desk, "wholes"), places(least_wholes(CROSSED, (0, 0))))
        self.assertEqual(desk_with("memory 0", "program - || whole").execute("wholes"), "- ; -")
        self.assertEqual(desk_with("memory 0", "program await 1 0 0 take").execute("can"), "- | 0")
        self.assertEqual(desk_with("memory 1", "program await 1 0 0 take").execute("can"), "-")
        desk = desk_with("memory 0 0", "program set 1 7 ; put 1 0 0 loose ; get 2 0 1 take ; get 3 0 1 loose")
        self.assertEqual(self.said(desk, "rewrites"), "0 1 exchange / 0 2 join")
        desk.execute("memory 0")
        self.assertEqual(self.said(desk, "rewrites"), "0 1 join / 0 2 join")

    def test_climb(self):
        ended, draw = 0, Draw(395)
        for _ in range(40):
            program = told.drawn_program(draw, 1 + draw.below(2), 3)
            memory = (draw.below(2), draw.below(2))
            try:
                desk = desk_with("plan 2 1 2 2 4", "memory " + show_memory(memory), "program " + show_program(program), "start")
            except TooLong:
                continue
            live = Live((2, 1, 2, 2, 4), plain_book(program), memory)
            for _ in range(12):
                if not has_ended(live.book, live.plain()):
                    self.refused(desk, NotReady, "climb", None)
                    line = f"go {draw.below(10 ** 30)} 30"
                    desk.execute(line)
                    live.go(int(line.split()[1]), 30)
            if has_ended(live.book, live.plain()):
                ended += 1
                end = tuple(core[1] for core in live.plain()[0]), live.plain()[1]
                self.assertEqual(self.said(desk, "climb"), show_program_end(end_up(program, end)))
                # The memory of the desk does not matter any more.
                desk.execute("memory 7 7 7")
                self.assertEqual(self.said(desk, "climb"), show_program_end(end_up(program, end)))
                desk.execute("source core")
                self.assertEqual(self.said(desk, "climb"), show_program_end(end_up(program, end)))
                desk.execute("program " + show_program(program + ((),) if len(program) < 4 else program[:3]))
                self.refused(desk, NotReady, "climb", None)
        self.assertGreater(ended, 8)

    def test_climb_of_another_book(self):
        desk = desk_with("plan 1 1 1 1 1", "memory 0", "source core", "start")
        self.refused(desk, NotReady, "climb", None)
        # The Live's book counts, wherever it came from.
        desk.execute("program -")
        self.assertEqual(self.said(desk, "climb"), "- | 0")
        desk.execute("program again 3 { }")
        self.assertEqual(self.said(desk, "climb"), "- | 0")
        desk.execute("program set 1 1")
        self.refused(desk, NotReady, "climb", None)
        desk.execute("start")
        self.refused(desk, NotReady, "climb", None)
        desk.execute("go 0 1")
        self.refused(desk, NotReady, "climb", None)
        desk = desk_with("plan 1 1 1 1 1", "memory 0", "program get 1 0 0 take ; put 1 0 0 loose", "start", "program get 1 0 0 loose ; put 1 0 0 give")
        self.refused(desk, NotReady, "climb", None)

    def test_linearize(self):
        none = 0
        for draw, kind, history in shared.histories(396, 120, most=5):
            found = linearization_at(kind, history, 0)
            none += found is None
            self.assertEqual(self.said(Desk(), f"linearize {kind} {show_history(history)}"), "-" if found is None else " ".join(map(str, found)))
        self.assertGreater(none, 10)
        for kind in shared.KINDS:
            self.assertEqual(self.said(Desk(), f"linearize {kind} -"), "")


class Refused(Case):
    def test_objects_that_are_no_line(self):
        for desk in (Desk(), desk_with(*SETTING)):
            for wrong in WRONG + (b"start", ("start",), ["start"], 0, "Start", "begin", "begin queue -", "bridge queue 0 take - 0 1", "\n", "start\n", "\nstart", "steps\n", CROSS.replace(" ; ", "\n"), CROSS + "\n", PASS + "\n",
                                  "memory 0\n0", "linearize queue -\n"):
                self.refused(desk, InvalidCommand, wrong, wrong)

    def test_a_word_more_or_less_and_spaces(self):
        for desk in (Desk(), desk_with(*SETTING)):
            for name in ALONE:
                for wrong in (name + " ", " " + name, name + " 0", name + "  ", name + " " + name, name[:-1], name + "s", name.upper(), name + "\n", name + ";"):
                    if wrong not in ALONE:
                        self.refused(desk, InvalidCommand, wrong, wrong)
            for line in WITH_WORDS:
                name, rest = line.split(" ", 1)
                for wrong in (name, name + " ", " " + line, line + " ", name + "  " + rest, name + rest, line.replace(" ", "  "), line.upper(), name + " x", name + " -1"):
                    self.refused(desk, InvalidCommand, wrong, wrong)
                if name not in ("memory", "linearize", "against", "decide"):
                    self.refused(desk, InvalidCommand, line + " 0", line + " 0")
                if name not in ("linearize", "decide", "against", "memory"):
                    self.refused(desk, InvalidCommand, line.rsplit(" ", 1)[0], line.rsplit(" ", 1)[0])

    def test_numbers(self):
        desk = desk_with(*SETTING)
        for wrong in ("go 00 1", "go 0 01", "go +1 1", "go -1 1", "go 1 -1", "go 1.0 1", "go 1 1_0", "go " + "1" * 31 + " 1", "go 0 " + "0" * 31, "go " + "9" * 5000 + " 0", "go 0 0 0", "go 0",
                      "go", "go x 1", "now 00", "now 0 0", "now", "now -1", "now " + "1" * 31, "register 0", "register 0 0 0", "register 00 0", "register 0 07", "register " + "9" * 31 + " 0"):
            self.refused(desk, InvalidCommand, wrong, wrong)
        self.assertEqual(self.said(desk, "go " + "9" * 30 + " 0"), "0")
        self.refused(desk, InvalidNumber, "now " + "9" * 30, int("9" * 30))
        self.refused(desk, InvalidNumber, "now 2", 2)
        self.refused(desk, InvalidNumber, "register 2 8", 2)
        self.refused(desk, InvalidNumber, "register 1 8", 8)

    def test_wrong_plans_memories_and_sources(self):
        for desk in (Desk(), desk_with(*SETTING)):
            for wrong in ("plan 6 4 2 2 4", "plan 2 3 2 2 4", "plan 33 1 1 1 1", "plan 2 1 0 2 4", "plan 2 1 5 2 4", "plan 2 1 2 5 4", "plan 2 1 2 2 7", "plan 2 1 2 2", "plan 2 1 2 2 4 4",
                          "plan 02 1 2 2 4", "plan 2 1 2 2 " + "4" * 31, "memory", "memory ", "memory 65536", "memory 00", "memory 0  0", "memory 0 ", "memory -", "memory 0,0",
                          "memory " + " ".join(["0"] * 33), "source", "source ", "source set r1 1", "source core;set r1 1", "source core ; ", "source core ;", "source  ; core",
                          "source core ; set r1", "source core ; jump l0", "source core ; " + " ; ".join(["core"] * 4), "source core ; l0: ; l0:", "source core ;  set r1 1",
                          "source core ; " + " ; ".join(["stop"] * 41), "source CORE", "source core ; set r8 1"):
                self.refused(desk, InvalidCommand, wrong, wrong)
        for right in ("plan 32 4 4 4 6", "memory " + " ".join(["65535"] * 32), "source core ; core ; core ; core", "source core ; end: ; jump end", "source core ; " + " ; ".join(["stop"] * 40)):
            self.assertEqual(self.said(Desk(), right), "ok")

    def test_wrong_texts(self):
        for desk in (Desk(), desk_with(*SETTING)):
            for wrong in ("program", "program ", "program  -", "program whole ;", "program set 6 0", "program if 1 { } { ", "program - || - || - || - || -", "program set 1 01",
                          "program " + "again 1 { " * 5 + "} } } } }", "against", "against -", "against - | ", "against r8=1 | 0", "against r1=0 | 0", "against - ; - ; - ; - ; - | 0",
                          "decide", "decide -", "decide r6=1 | 0", "decide - |0", "linearize", "linearize queue", "linearize queue ", "linearize Queue -", "linearize plain -",
                          "linearize  queue -", "linearize queue  -", "linearize queue 0 get 1 0 1", "linearize queue 0 take - 1 0", "linearize -", "linearize lock 4 take - 0 1"):
                self.refused(desk, InvalidCommand, wrong, wrong)

    def test_what_is_not_ready(self):
        setters = {"plan": "plan 2 1 2 2 4", "memory": "memory 0 0", "book": CROSS, "program": PASS}
        for line, needs in NEEDS.items():
            for missing in needs:
                desk = Desk()
                if missing != "live" and "live" in needs:
                    desk = desk_with("plan 2 1 2 2 4", "memory 0 0", CROSS, "start")
                for name in ("program", "book", "memory", "plan"):
                    # A program brings a book with it.
                    if name != missing and not (name == "program" and missing == "book"):
                        desk.execute(setters[name])
                self.refused(desk, NotReady, line, None)
            desk = desk_with(*SETTING[:2], PASS, CROSS, "start", "go 0 1")
            if line != "climb":
                self.assertIs(type(desk.execute(line)), str)
        # An invalid command is refused first.
        for line in ("against x", "decide -", "go 0", "now x", "start 1"):
            self.refused(Desk(), InvalidCommand, line, line)

    def test_errors_of_what_is_done(self):
        desk = desk_with("plan 2 1 2 2 4", "memory 0 0 0", CROSS)
        self.refused(desk, InvalidMemory, "start", (0, 0, 0))
        desk.execute("memory 0 0")
        desk.execute("start")
        self.refused(desk, Nothing, "back", None)
        desk.execute("memory 0")
        self.refused(desk, InvalidMemory, "start", (0,))
        # The old Live is still there.
        self.assertEqual(self.said(desk, "seen"), "0: - < - ; 0: - < - | 0 0")
        self.refused(desk, InvalidEnd, "against - ; - | 0 0", (((0,) * 8,) * 2, (0, 0)))
        self.refused(desk, InvalidEnd, "against - | 0", (((0,) * 8,), (0,)))
        desk.execute("source core ; l0: ; jump l0")
        self.assertRaises(MachineError, desk.execute, "against - | 0")
        long_hand = " ; ".join(["await 0 5 0 loose"] * 11)
        self.refused(desk, TooLong, f"program - || {long_hand}", 1)
        self.refused(desk, NotReady, "can", None)
        desk.execute("program get 1 0 0 loose ; get 2 1 0 loose")
        not_short = ((("get", 1, 0, 0, "loose"), ("get", 2, 1, 0, "loose")),)
        for line in ("can", "outside", "wholes", "decide - ; - | 0"):
            self.refused(desk, NotShort, line, not_short)
        desk.execute("program - || -")
        self.refused(desk, TooLong, f"program {long_hand} || -", 0)
        self.assertEqual(self.said(desk, "can"), "- ; - | 0")
        self.refused(desk, InvalidEnd, "decide - | 0", (((0,) * 6,), (0,)))
        self.refused(desk, InvalidEnd, "decide - ; - | 0 0", (((0,) * 6,) * 2, (0, 0)))
        desk.execute("source core")
        self.refused(desk, InvalidBook, "outside", ((),))
        gives = " ; ".join(["again 8 { " + " ; ".join(["put 0 0 0 give"] * 5) + " }"])
        self.assertEqual(self.said(desk, "program " + gives), "ok")


if __name__ == "__main__":
    unittest.main()
