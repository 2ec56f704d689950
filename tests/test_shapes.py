import unittest

from touchroad.errors import InvalidMode, InvalidNumber, InvalidWords
from touchroad.road import end_up, plain_book, sorted_book, viewing_of_run
from touchroad.fast import bridge, seen, steady
from touchroad.shapes import counter_program, lost_run, lost_run_leads, mailbox_program, ticket_program
from touchroad.sortedmachine import sorted_ends
from touchroad.ends import ends
from touchroad.tongue import is_program
from touchroad.viewing import viewing_ends, viewing_run_leads
from tests import reference_programs as told
from tests.helpers import WRONG, Draw, check_boolean, check_raises, same, shares

MODES = ("loose", "take", "give", "both")
TAKING, GIVING = ("loose", "take"), ("loose", "give")
NO_NUMBERS = (0, -1, 6, 10 ** 30, True, False)
NO_MODES = WRONG + ("Loose", "loose ", ("loose",), b"loose", "none", 0, ["take"])


def ticket_hand(rounds, taking, giving):
    return (("set", 1, 1), ("again", rounds, (
        ("addto", 2, 1, 0, 0, "loose"), ("await", 2, 0, 1, taking), ("get", 3, 0, 2, "loose"), ("add", 3, 3, 1), ("put", 3, 0, 2, "loose"), ("add", 2, 2, 1),
        ("put", 2, 0, 1, giving))))


class Shapes(unittest.TestCase):
    def test_counters(self):
        for hands in (1, 2, 3, 4):
            for rounds in (1, 2, 3, 4, 5):
                for mode in MODES:
                    program = ((("set", 1, 1), ("again", rounds, (("addto", 2, 1, 0, 0, mode),))),) * hands
                    self.assertTrue(same(counter_program(hands=hands, rounds=rounds, mode=mode), program))
                    self.assertTrue(is_program(program))

    def test_tickets(self):
        for hands in (1, 2, 3, 4):
            for rounds in (1, 2, 3, 4, 5):
                for taking in TAKING:
                    for giving in GIVING:
                        program = (ticket_hand(rounds, taking, giving),) * hands
                        self.assertTrue(same(ticket_program(hands=hands, rounds=rounds, taking=taking, giving=giving), program))
                        self.assertTrue(is_program(program))

    def test_mailboxes(self):
        self.assertTrue(same(mailbox_program(words=(65535,), taking="take", giving="loose"), (
            (("set", 1, 0), ("await", 1, 0, 1, "take"), ("set", 2, 65535), ("put", 2, 0, 2, "loose"), ("set", 1, 1), ("put", 1, 0, 0, "loose")),
            (("set", 1, 1), ("await", 1, 0, 0, "take"), ("get", 2, 0, 2, "loose"), ("put", 1, 0, 1, "loose")))))
        for words in ((5,), (5, 0), (5, 0, 5), (1, 2, 3, 65535)):
            for taking in TAKING:
                for giving in GIVING:
                    first, second = mailbox_program(words, taking, giving)
                    self.assertEqual((len(first), len(second)), (6 * len(words), 4 * len(words)))
                    for n, word in enumerate(words, 1):
                        self.assertTrue(same(first[6 * n - 6:6 * n], (("set", 1, n - 1), ("await", 1, 0, 1, taking), ("set", 2, word), ("put", 2, 0, 2, "loose"),
                                                                      ("set", 1, n), ("put", 1, 0, 0, giving))))
                        self.assertTrue(same(second[4 * n - 4:4 * n], (("set", 1, n), ("await", 1, 0, 0, taking), ("get", n + 1, 0, 2, "loose"), ("put", 1, 0, 1, giving))))
                    self.assertTrue(is_program((first, second)))

    def test_errors_in_their_sequence(self):
        for wrong in NO_NUMBERS[:2] + (5,) + NO_NUMBERS[3:]:
            check_raises(self, InvalidNumber, wrong, counter_program, wrong, 99, None)
            check_raises(self, InvalidNumber, wrong, ticket_program, wrong, 99, None, None)
            check_raises(self, InvalidNumber, wrong, lost_run, wrong, 99, None, None)
            check_raises(self, InvalidNumber, wrong, lost_run_leads, wrong, 99, None, None, None)
        for wrong in NO_NUMBERS:
            check_raises(self, InvalidNumber, wrong, counter_program, 4, wrong, None)
            check_raises(self, InvalidNumber, wrong, ticket_program, 4, wrong, None, None)
            check_raises(self, InvalidNumber, wrong, lost_run, 1, wrong, None, None)
            check_raises(self, InvalidNumber, wrong, lost_run_leads, 1, wrong, None, None, None)
        for wrong in NO_MODES:
            check_raises(self, InvalidMode, wrong, counter_program, 1, 5, wrong)
        for wrong in NO_MODES + ("give", "both"):
            check_raises(self, InvalidMode, wrong, ticket_program, 1, 5, wrong, None)
            check_raises(self, InvalidMode, wrong, lost_run, 1, 5, wrong, None)
            check_raises(self, InvalidMode, wrong, lost_run_leads, 1, 5, wrong, None, None)
            check_raises(self, InvalidMode, wrong, mailbox_program, (1,), wrong, None)
        for wrong in NO_MODES + ("take", "both"):
            check_raises(self, InvalidMode, wrong, ticket_program, 1, 5, "take", wrong)
            check_raises(self, InvalidMode, wrong, lost_run, 1, 5, "take", wrong)
            check_raises(self, InvalidMode, wrong, lost_run_leads, 1, 5, "take", wrong, None)
            check_raises(self, InvalidMode, wrong, mailbox_program, (1,), "loose", wrong)
        for wrong in WRONG + ((), (1,) * 5, [1], (65536,), (-1,), (1, True), (None,), ((1,),), "1", 1):
            check_raises(self, InvalidWords, wrong, mailbox_program, wrong, None, None)


class Facts(unittest.TestCase):
    def test_k1(self):
        for hands, rounds in ((1, 1), (1, 5), (2, 1), (2, 2), (2, 3), (3, 1), (3, 2), (4, 1)):
            for mode in MODES:
                program = counter_program(hands, rounds, mode)
                self.assertEqual({end[1] for end in viewing_ends(program, (0,))}, {(hands * rounds,)})
        for mode in MODES:
            program = counter_program(2, 2, mode)
            for found in (ends(plain_book(program), (0,)), sorted_ends(sorted_book(program), (0,))):
                self.assertEqual({end_up(program, end)[1] for end in found}, {(4,)})

    def test_k2(self):
        for hands, rounds in ((1, 1), (1, 3), (2, 1), (2, 2), (2, 3), (3, 1), (3, 2)):
            program = ticket_program(hands, rounds, "take", "give")
            self.assertEqual({end[1] for end in viewing_ends(program, (0, 0, 0))}, {(hands * rounds,) * 3})

    def test_k2_on_fast_machines(self):
        for hands, rounds, plan in ((2, 3, (3, 1, 3, 2, 6)), (4, 2, (3, 1, 1, 1, 4))):
            program = ticket_program(hands, rounds, "take", "give")
            book = plain_book(program)
            made, stand = steady(plan, book, (0, 0, 0), 20000)
            self.assertEqual(seen(plan, stand)[1], (hands * rounds,) * 3)
            run = bridge(plan, book, (0, 0, 0), made)
            end = tuple(core[1][:6] for core in seen(plan, stand)[0]), seen(plan, stand)[1]
            check_boolean(self, True, viewing_run_leads(program, (0, 0, 0), end, viewing_of_run(program, (0, 0, 0), run)))

    def test_k3(self):
        for words in ((5,), (5, 6), (6, 6, 0), (1, 65535, 3, 4)):
            found = viewing_ends(mailbox_program(words, "take", "give"), (0, 0, 0))
            self.assertEqual({end[0][1][2:2 + len(words)] for end in found}, {words})
        self.assertGreater(len(viewing_ends(mailbox_program((5, 6), "loose", "give"), (0, 0, 0))), 1)
        self.assertGreater(len(viewing_ends(mailbox_program((5, 6), "take", "loose"), (0, 0, 0))), 1)

    def test_k4(self):
        for hands in (1, 2, 3, 4):
            for rounds in (1, 2, 3, 4, 5):
                for taking in TAKING:
                    for giving in GIVING:
                        run = lost_run(hands=hands, rounds=rounds, taking=taking, giving=giving)
                        self.assertEqual(run is None, hands == 1 or (taking, giving) == ("take", "give"))
                        if run is not None:
                            self.assertIs(type(run), list)
                            self.check_leads(hands, rounds, taking, giving, run, True)
                            check_boolean(self, True, lost_run_leads(hands=hands, rounds=rounds, taking=taking, giving=giving, value=run))

    def test_no_run_is_lost(self):
        for hands, rounds in ((1, 1), (1, 3), (2, 1), (2, 2), (3, 1)):
            program = ticket_program(hands, rounds, "take", "give")
            for end in viewing_ends(program, (0, 0, 0)):
                self.assertNotEqual(end[1][2], hands * rounds - 1)
        for taking in TAKING:
            for giving in GIVING:
                found = {end[1][2] for end in viewing_ends(ticket_program(2, 2, taking, giving), (0, 0, 0))}
                self.assertEqual(3 in found, (taking, giving) != ("take", "give"))

    def check_leads(self, hands, rounds, taking, giving, run, expected):
        machine, good = told.Viewing(ticket_program(hands, rounds, taking, giving), (0, 0, 0)), type(run) is list
        for step in run if good else ():
            good = good and any(same(step, let) for let in machine.steps())
            if good:
                machine.go(step)
        good = good and machine.ended() and machine.end()[1][2] == hands * rounds - 1
        if expected is not None:
            self.assertEqual(good, expected)
        check_boolean(self, good, lost_run_leads(hands, rounds, taking, giving, run))

    def test_one_step_wrong(self):
        draw = Draw(351)
        for hands, rounds, taking, giving in ((2, 1, "loose", "loose"), (2, 2, "take", "loose"), (3, 1, "loose", "give")):
            run = lost_run(hands, rounds, taking, giving)
            for at in range(len(run)):
                h = draw.below(hands)
                for step in (("do", h), ("touch", h, 0), ("touch", h, 1), ("touch", h, 2), ("touch", run[at][1], False), None, list(run[at])):
                    for more in (0, 1):
                        self.check_leads(hands, rounds, taking, giving, run[:at] + [step] + run[at + more:], None)
                self.check_leads(hands, rounds, taking, giving, run[:at] + run[at + 1:], False)
            self.check_leads(hands, rounds, "take", "give", run, False)
            self.check_leads(hands, rounds + 1, taking, giving, run, False)
            for wrong in WRONG + (tuple(run), run[:-1], run + run[-1:], [list(step) for step in run], []):
                check_boolean(self, False, lost_run_leads(hands, rounds, taking, giving, wrong))
        # A run on which nothing is lost is no lost run.
        whole = [("do", 0)] + [("touch", 0, 0)] * 3 + [("do", 0), ("touch", 0, 0), ("do", 0), ("touch", 0, 0)]
        check_boolean(self, True, viewing_run_leads(ticket_program(1, 1, "take", "give"), (0, 0, 0), (((0, 1, 1, 1, 0, 0),), (1, 1, 1)), whole))
        check_boolean(self, False, lost_run_leads(1, 1, "take", "give", whole))

    def test_new_lists(self):
        first = lost_run(2, 1, "loose", "loose")
        self.assertFalse(shares([first], [lost_run(2, 1, "loose", "loose")]))
        before = list(first)
        lost_run_leads(2, 1, "loose", "loose", first)
        self.assertEqual(first, before)


if __name__ == "__main__":
    unittest.main()
