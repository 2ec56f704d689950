"""Values from strings, Unreadable if they cannot be texts of such values.

Not every sign is looked at here, and words may be left behind a value: reading.py compares the text of what was found
with the string.
"""

from touchroad.errors import Unreadable
from touchroad.numerals import is_number, is_numeral
from touchroad.objects import form_of
from touchroad.statements import FORMS

REGISTERS = ("r0", "r1", "r2", "r3", "r4", "r5", "r6", "r7")


class Reader:
    """The words of a string, and how many of them were taken."""

    def __init__(self, text, words):
        self.text = text
        self.words = words
        self.at = 0


def next_word(reader):
    """Return the next word, an empty one behind the last."""
    return reader.words[reader.at] if reader.at < len(reader.words) else ""


def taken_word(reader):
    """Return the next word and take it."""
    word = next_word(reader)
    reader.at += 1
    return word


def take_sign(reader, sign):
    """Take a word that has to be this one."""
    if taken_word(reader) != sign:
        raise Unreadable(reader.text)


def taken_number(reader, digits):
    """Return the number of at most so many digits that comes next and take it."""
    word = taken_word(reader)
    if not is_numeral(word, digits):
        raise Unreadable(reader.text)
    return int(word)


def parsed_words(text, part):
    """Return the words of the memory that a part of a text shows."""
    words = part.split(" ")
    if len(words) > 32 or not all([is_number(word, 65535) for word in words]):
        raise Unreadable(text)
    return tuple([int(word) for word in words])


def parsed_registers(text, part, many):
    """Return the words of so many registers, or variables, that a part of a text shows."""
    registers = [0] * many
    shown = part.split(" ") if part != "-" else []
    for item in shown:
        name, _, word = item.partition("=")
        if name not in REGISTERS[:many] or not is_number(word, 65535):
            raise Unreadable(text)
        registers[REGISTERS.index(name)] = int(word)
    return tuple(registers)


def parsed_end(text, many):
    """Return an end, or a program end, with so many registers, or variables."""
    parts = text.split(" | ")
    cores = parts[0].split(" ; ")
    if len(parts) != 2 or len(cores) > 4:
        raise Unreadable(text)
    return tuple([parsed_registers(text, core, many) for core in cores]), parsed_words(text, parts[1])


def parsed_step(text, part):
    """Return the plain step that a part of a text shows."""
    name, _, core = part.partition(" ")
    if name not in ("do", "flush") or not is_number(core, 3):
        raise Unreadable(text)
    return (name, int(core))


def parsed_run(text):
    """Return a list of plain steps."""
    return [parsed_step(text, part) for part in text.split(", ")] if text != "-" else []


def parsed_paper(text):
    """Return a paper, or what looks like one."""
    spaced = text.replace("(", " ( ").replace(")", " ) ").replace(",", " , ")
    return taken_paper(Reader(text, [word for word in spaced.split(" ") if word != ""]), 0)


def taken_paper(reader, depth):
    """Return the paper that comes next, where so many brackets are open, and take it."""
    name = taken_word(reader)
    if name not in ("read", "first", "ring", "word", "cell") or name in ("read", "first") and depth == 60:
        raise Unreadable(reader.text)
    if name == "ring":
        return taken_ring(reader)
    head = (name, taken_number(reader, 4))
    if name == "read":
        return head + (taken_parts(reader, depth + 1),)
    if name == "cell":
        return head
    head = head + (taken_number(reader, 4),)
    return head + taken_pair(reader, depth + 1) if name == "first" else head


def taken_ring(reader):
    """Return the ring whose kind comes next and take it."""
    kind = taken_word(reader)
    events = []
    while is_numeral(next_word(reader), 4):
        events.append(taken_number(reader, 4))
    return ("ring", kind, tuple(events))


def taken_pair(reader, depth):
    """Return the two papers in brackets that come next and take them."""
    take_sign(reader, "(")
    one = taken_paper(reader, depth)
    take_sign(reader, ",")
    other = taken_paper(reader, depth)
    take_sign(reader, ")")
    return (one, other)


def taken_parts(reader, depth):
    """Return the tuples (source, paper) in brackets that come next and take them."""
    take_sign(reader, "(")
    parts = [taken_part(reader, depth)]
    while next_word(reader) == ",":
        take_sign(reader, ",")
        parts.append(taken_part(reader, depth))
    take_sign(reader, ")")
    return tuple(parts)


def taken_part(reader, depth):
    """Return the tuple (source, paper) that comes next and take it."""
    if next_word(reader) == "start":
        take_sign(reader, "start")
        return (-1, taken_paper(reader, depth))
    return (taken_number(reader, 4), taken_paper(reader, depth))


def parsed_program(text):
    """Return a program, or what looks like one."""
    return tuple([parsed_hand(text, part) for part in text.split(" || ")])


def parsed_hand(text, part):
    """Return the hand that a part of a text shows."""
    return () if part == "-" else taken_statements(Reader(text, part.split(" ")), 0)


def taken_statements(reader, depth):
    """Return the statements that come next, where so many braces are open, and take them."""
    statements = [taken_statement(reader, depth)]
    while next_word(reader) == ";":
        take_sign(reader, ";")
        statements.append(taken_statement(reader, depth))
    return tuple(statements)


def taken_statement(reader, depth):
    """Return the statement that comes next and take it."""
    name = taken_word(reader)
    if name == "if":
        return (name, taken_number(reader, 31), taken_block(reader, depth + 1), taken_block(reader, depth + 1))
    if name == "again":
        return (name, taken_number(reader, 31), taken_block(reader, depth + 1))
    if name not in FORMS:
        raise Unreadable(reader.text)
    parts = [taken_word(reader) if kind == "m" else taken_number(reader, 31) for kind in FORMS[name]]
    return (name,) + tuple(parts)


def taken_block(reader, depth):
    """Return the statements in braces that come next and take them; so many braces are open in them."""
    take_sign(reader, "{")
    if depth > 4:
        raise Unreadable(reader.text)
    statements = () if next_word(reader) == "}" else taken_statements(reader, depth)
    take_sign(reader, "}")
    return statements


def parsed_call(kind, text, part):
    """Return the call that a part of a text shows, or what looks like one."""
    reader = Reader(text, part.split(" "))
    hand = taken_number(reader, 31)
    form = form_of(kind, taken_word(reader))
    if form is None:
        raise Unreadable(text)
    operation = (form[0], taken_number(reader, 31)) if form[1] else (form[0],)
    answer = None
    if next_word(reader) == "-":
        take_sign(reader, "-")
    else:
        answer = taken_number(reader, 31)
    return (hand, operation, answer, taken_number(reader, 31), taken_number(reader, 31))


def parsed_history(kind, text):
    """Return a history of a kind, or what looks like one."""
    return tuple([parsed_call(kind, text, part) for part in text.split(" ; ")]) if text != "-" else ()
