"""Three shapes of programs, and lost runs."""

from touchroad.checks import check_number
from touchroad.errors import InvalidMode, InvalidWords
from touchroad.statements import MODES
from touchroad.values import are_words, is_one_of, rebuilt
from touchroad.viewruns import view_end_of


def check_mode(mode, modes):
    """Raise InvalidMode for any object that is not one of some modes."""
    if not is_one_of(mode, modes):
        raise InvalidMode(rebuilt(mode))


def check_size(hands, rounds):
    """Raise InvalidNumber of hands or of rounds."""
    check_number(hands, 1, 4)
    check_number(rounds, 1, 5)


def check_taking_and_giving(taking, giving):
    """Raise InvalidMode of taking or of giving."""
    check_mode(taking, MODES["get"])
    check_mode(giving, MODES["put"])


def counter_program(hands, rounds, mode):
    """Return the program in which each hand adds 1 to a cell in each round."""
    check_size(hands, rounds)
    check_mode(mode, MODES["addto"])
    return ((("set", 1, 1), ("again", rounds, (("addto", 2, 1, 0, 0, mode),))),) * hands


def ticket_program(hands, rounds, taking, giving):
    """Return the program in which each hand draws a ticket in each round, and adds 1 to a cell when it is served."""
    check_size(hands, rounds)
    check_taking_and_giving(taking, giving)
    body = (
        ("addto", 2, 1, 0, 0, "loose"),
        ("await", 2, 0, 1, taking),
        ("get", 3, 0, 2, "loose"),
        ("add", 3, 3, 1),
        ("put", 3, 0, 2, "loose"),
        ("add", 2, 2, 1),
        ("put", 2, 0, 1, giving),
    )
    return ((("set", 1, 1), ("again", rounds, body)),) * hands


def sending(number, word, taking, giving):
    """Return the statements that put the word with a number into the mailbox."""
    return (
        ("set", 1, number - 1),
        ("await", 1, 0, 1, taking),
        ("set", 2, word),
        ("put", 2, 0, 2, "loose"),
        ("set", 1, number),
        ("put", 1, 0, 0, giving),
    )


def receiving(number, taking, giving):
    """Return the statements that get the word with a number out of the mailbox."""
    return (
        ("set", 1, number),
        ("await", 1, 0, 0, taking),
        ("get", number + 1, 0, 2, "loose"),
        ("put", 1, 0, 1, giving),
    )


def mailbox_program(words, taking, giving):
    """Return the program in which one hand hands over words to another one, through one cell."""
    if not isinstance(words, tuple) or not 1 <= len(words) <= 4 or not are_words(words, len(words)):
        raise InvalidWords(rebuilt(words))
    check_taking_and_giving(taking, giving)
    sent, received = (), ()
    for at, word in enumerate(words):
        sent = sent + sending(at + 1, word, taking, giving)
        received = received + receiving(at + 1, taking, giving)
    return sent, received


def steps_of_round(hand, ticket, got):
    """Return the steps of a round of ticket_program; got is the index of the version that the get reads.

    So far, each cell has as many versions behind its first one as tickets were drawn before.
    """
    return [
        ("touch", hand, ticket),
        ("touch", hand, ticket),
        ("touch", hand, got),
        ("do", hand),
        ("touch", hand, ticket),
        ("do", hand),
        ("touch", hand, ticket),
    ]


def lost_run(hands, rounds, taking, giving):
    """Return a run of ticket_program in which one round adds nothing, None if there is none.

    Two hands begin; the second one still reads the first version in its first round, which only a put that gives and
    an await that takes forbid.
    """
    check_size(hands, rounds)
    check_taking_and_giving(taking, giving)
    if hands == 1 or (taking, giving) == ("take", "give"):
        return None
    turns = [0, 1] + [0] * (rounds - 1) + [1] * (rounds - 1)
    for hand in range(2, hands):
        turns.extend([hand] * rounds)
    steps = [("do", hand) for hand in range(hands)]
    for ticket, hand in enumerate(turns):
        steps.extend(steps_of_round(hand, ticket, 0 if ticket == 1 else ticket))
    return steps


def lost_run_leads(hands, rounds, taking, giving, value):
    """Return whether any object is a run of ticket_program in which one round adds nothing in the end."""
    program = ticket_program(hands, rounds, taking, giving)
    end = view_end_of(program, (0, 0, 0), value)
    return end is not None and end[1][2] == hands * rounds - 1
