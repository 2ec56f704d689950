"""Books as text."""

from touchroad.books import LARGEST, PARTS
from touchroad.checks import check_book
from touchroad.errors import InvalidText
from touchroad.numerals import DIGITS, is_number
from touchroad.values import rebuilt

SMALL = "abcdefghijklmnopqrstuvwxyz"


def is_name(text):
    """Return whether a string is a NAME."""
    if not 1 <= len(text) <= 12 or text[0] not in SMALL:
        return False
    return all([sign in SMALL or sign in DIGITS for sign in text])


def is_part(text, kind):
    """Return whether a string is a part of an instruction, as it is written; a NAME may be unknown."""
    if kind == "t":
        return is_name(text)
    if kind == "r":
        return text.startswith("r") and is_number(text[1:], LARGEST["r"])
    return is_number(text, LARGEST["w"])


def is_written(words):
    """Return whether a list of strings is a name of an instruction and its parts, as they are written."""
    if words[0] not in PARTS:
        return False
    kinds = PARTS[words[0]]
    if len(words) != len(kinds) + 1:
        return False
    return all([is_part(text, kind) for text, kind in zip(words[1:], kinds)])


def takes_line(names, rows, number, line):
    """Add a line to the names and the rows of a core; return whether it can be added."""
    if line.endswith(":"):
        if not is_name(line[:-1]) or line[:-1] in names:
            return False
        names[line[:-1]] = len(rows)
        return True
    words = line.split(" ")
    if len(rows) == 40 or not is_written(words):
        return False
    rows.append((number, words))
    return True


def cores_of(lines):
    """Return a tuple (names, rows) for each core; a row is the index of its line and its words."""
    cores = []
    for number, line in enumerate(lines):
        if line == "core" and len(cores) < 4:
            cores.append(({}, []))
        elif len(cores) == 0 or not takes_line(cores[-1][0], cores[-1][1], number, line):
            # A fifth core comes here, too: it is neither a name nor an instruction.
            raise InvalidText(number)
    return cores


def instruction_of(names, number, words):
    """Return the instruction that is written in the line with an index."""
    parts = [words[0]]
    for text, kind in zip(words[1:], PARTS[words[0]]):
        if kind == "t" and text not in names:
            raise InvalidText(number)
        if kind == "t":
            parts.append(names[text])
        else:
            parts.append(int(text[1:] if kind == "r" else text))
    return tuple(parts)


def assemble(source):
    """Return the book of a source."""
    if not isinstance(source, str):
        raise InvalidText(rebuilt(source))
    # Names may be given behind the rows that lead to them, so all lines are read before any row is made.
    cores = cores_of(source.split("\n"))
    return tuple([
        tuple([instruction_of(names, number, words) for number, words in rows])
        for names, rows in cores
    ])


def written_part(part, kind):
    """Return the text of a part of an instruction."""
    if kind == "t":
        return f"l{part}"
    return f"r{part}" if kind == "r" else str(part)


def written(instruction):
    """Return the line of an instruction."""
    kinds = PARTS[instruction[0]]
    return " ".join([instruction[0]] + [written_part(part, kind) for part, kind in zip(instruction[1:], kinds)])


def lines_of(rows):
    """Return the lines of a core."""
    named = {instruction[-1]: True for instruction in rows if instruction[0] in ("ifzero", "jump")}
    lines = ["core"]
    for row in range(len(rows) + 1):
        if row in named:
            lines.append(f"l{row}:")
        if row < len(rows):
            lines.append(written(rows[row]))
    return lines


def source_of(book):
    """Return the source of a book."""
    check_book(book)
    lines = []
    for rows in book:
        lines.extend(lines_of(rows))
    return "\n".join(lines)
