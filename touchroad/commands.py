"""The commands of the desk and the values in them."""

from touchroad.assembler import assemble
from touchroad.books import is_plan
from touchroad.errors import InvalidCommand, InvalidKind, InvalidText, Unreadable
from touchroad.numerals import is_numeral
from touchroad.reading import read_end, read_history, read_memory, read_program, read_program_end
from touchroad.values import rebuilt

# The commands with integers, and how many they have.
NUMBERS = {"plan": 5, "go": 2, "now": 1, "register": 2}

TEXTS = ("memory", "source", "against", "program", "decide", "linearize")

ALONE = (
    "start",
    "back",
    "steps",
    "seen",
    "ends",
    "late",
    "fences",
    "race",
    "can",
    "outside",
    "wholes",
    "rewrites",
    "climb",
)


def numbers_in(line, rest, many):
    """Return the tuple of the integers behind the name of a command."""
    words = rest.split(" ")
    if len(words) != many or not all([is_numeral(word, 30) for word in words]):
        raise InvalidCommand(line)
    return tuple([int(word) for word in words])


def value_in(name, rest):
    """Return the value, or (kind, history), behind the name of a command; raise an error if there is none."""
    if name == "memory":
        return read_memory(rest)
    if name == "source":
        return assemble(rest.replace(" ; ", "\n"))
    if name == "against":
        return read_end(rest)
    if name == "program":
        return read_program(rest)
    if name == "decide":
        return read_program_end(rest)
    kind, _, text = rest.partition(" ")
    return kind, read_history(kind, text)


def command_in(line):
    """Return (name, value) of a command; the value is None if nothing stands behind the name."""
    if not isinstance(line, str) or "\n" in line:
        raise InvalidCommand(rebuilt(line))
    name, space, rest = line.partition(" ")
    if name in ALONE and space == "":
        return name, None
    if name in NUMBERS:
        numbers = numbers_in(line, rest, NUMBERS[name])
        if name == "plan" and not is_plan(numbers):
            raise InvalidCommand(line)
        return name, numbers
    if name not in TEXTS:
        raise InvalidCommand(line)
    try:
        return name, value_in(name, rest)
    except (Unreadable, InvalidText, InvalidKind):
        raise InvalidCommand(line)
