"""Statements, hands, programs and program ends, and the parts of a touch."""

from touchroad.books import reads, result
from touchroad.values import are_words, is_between, is_one_of, is_tuple_of, is_word, replaced

# The parts of each statement behind its name: v is a variable, w a word, m a mode.
FORMS = {
    "set": "vw",
    "add": "vvv",
    "sub": "vvv",
    "and": "vvv",
    "xor": "vvv",
    "below": "vvv",
    "get": "vvwm",
    "put": "vvwm",
    "swap": "vvvwm",
    "addto": "vvvwm",
    "await": "vvwm",
    "whole": "",
}

MODES = {
    "get": ("loose", "take"),
    "put": ("loose", "give"),
    "swap": ("loose", "take", "give", "both"),
    "addto": ("loose", "take", "give", "both"),
    "await": ("loose", "take"),
}

TOUCHES = ("get", "put", "swap", "addto", "await", "whole")
READING = ("get", "await", "swap", "addto", "whole")
WRITING = ("put", "swap", "addto", "whole")
SETTING = ("get", "swap", "addto")


def is_part(name, kind, value):
    """Return whether any object is a part of this kind of the statements of a name."""
    if kind == "m":
        return is_one_of(value, MODES[name])
    return is_between(value, 0, 5) if kind == "v" else is_word(value)


def is_plain_statement(value):
    """Return whether a tuple that begins with a string is a statement that is neither if nor again."""
    if value[0] not in FORMS or len(value) != len(FORMS[value[0]]) + 1:
        return False
    return all([is_part(value[0], kind, part) for kind, part in zip(FORMS[value[0]], value[1:])])


def statements_in(value, level):
    """Return how many statements any object at a level is, with those inside it; 100 if it is none."""
    if not isinstance(value, tuple) or len(value) == 0 or not isinstance(value[0], str) or level > 4:
        return 100
    if value[0] == "if":
        if len(value) != 4 or not is_between(value[1], 0, 5):
            return 100
        return 1 + statements_of(value[2], level + 1) + statements_of(value[3], level + 1)
    if value[0] == "again":
        if len(value) != 3 or not is_between(value[1], 0, 8):
            return 100
        return 1 + statements_of(value[2], level + 1)
    return 1 if is_plain_statement(value) else 100


def statements_of(value, level):
    """Return how many statements are in any object at a level; 100 or more if it is no tuple of statements."""
    if not isinstance(value, tuple) or len(value) > 24:
        return 100
    return sum([statements_in(statement, level) for statement in value])


def is_hand(value):
    """Return whether any object is a hand."""
    return statements_of(value, 1) <= 24


def is_program_value(value):
    """Return whether any object is a program."""
    return isinstance(value, tuple) and 1 <= len(value) <= 4 and all([is_hand(hand) for hand in value])


def is_program_end(program, memory, value):
    """Return whether any object is a program end for the hands of a program and the cells of a memory."""
    if not is_tuple_of(value, 2) or not is_tuple_of(value[0], len(program)):
        return False
    return all([are_words(words, 6) for words in value[0]]) and are_words(value[1], len(memory))


def is_taking(touch):
    """Return whether a touch takes."""
    return touch[-1] in ("take", "both", "whole")


def is_giving(touch):
    """Return whether a touch gives."""
    return touch[-1] in ("give", "both", "whole")


def touched_cell(touch, words, cells):
    """Return the cell of a touch, cells for the hidden cell."""
    return cells if touch[0] == "whole" else (words[touch[-3]] + touch[-2]) % cells


def written_word(touch, words, old):
    """Return the word that a touch which writes gives to its cell; old is the word that it reads, if it reads."""
    if touch[0] == "whole":
        return 0
    given = words[touch[-4]]
    return (old + given) % 65536 if touch[0] == "addto" else given


def words_after(action, words, old):
    """Return the variables after an action; old is the word that it reads, if it reads."""
    if action[0] in SETTING:
        return replaced(words, action[1], old)
    if action[0] in TOUCHES or action[0] == "branch":
        return words
    return replaced(words, action[1], result(action, tuple([words[number] for number in reads(action)])))
