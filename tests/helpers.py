"""What the tests share: examples, strict comparison, wrong values, drawn books."""

import doctest

from touchroad.errors import MachineError


class Odd:
    """An object that is equal to everything, and no value of the document."""

    def __eq__(self, other):
        return True

    def __hash__(self):
        return 0


def deep(levels):
    value = ()
    for _ in range(levels):
        value = (value,)
    return value


WRONG = (None, True, False, -1, 10 ** 30, "", "a text", b"do", (), [], {}, set(), deep(90), [[1], (2, [3])], Odd(), object)


def check_examples(case, text):
    """Run the examples of the document, each on the names of the ones before."""
    test = doctest.DocTestParser().get_doctest(text, {}, case.id(), None, 0)
    told = []
    runner = doctest.DocTestRunner(verbose=False)
    runner.run(test, out=told.append)
    case.assertEqual("".join(told), "")
    case.assertGreater(len(test.examples), 0)


def same(one, other):
    """Whether two values are equal in every place, True being no 1 and a list no tuple."""
    if type(one) is not type(other):
        return False
    if isinstance(one, (list, tuple)):
        return len(one) == len(other) and all(same(a, b) for a, b in zip(one, other))
    if isinstance(one, Odd):
        return one is other
    return one == other


def shares(one, other):
    """Whether a list or a tuple that is not empty occurs in both values."""
    def parts(value):
        if isinstance(value, (list, tuple)):
            if value or isinstance(value, list):
                yield id(value)
            for item in value:
                yield from parts(item)
    return bool(set(parts(one)) & set(parts(other)))


def check_raises(case, kind, value, call, *args, **named):
    """The call raises exactly this error with this value, built anew, and changes nothing."""
    before = repr(args)
    with case.assertRaises(MachineError) as caught:
        call(*args, **named)
    error = caught.exception
    case.assertIs(type(error), kind, (error, args))
    case.assertTrue(same(error.value, value), (error.value, value))
    case.assertFalse(shares(error.value, value))
    case.assertEqual(repr(args), before)


def check_boolean(case, expected, answer):
    case.assertIs(answer, bool(expected))


def variants(value):
    """Values that differ from a value in exactly one place."""
    if isinstance(value, tuple):
        yield list(value)
        yield value + (0,)
        yield value + (None,)
        yield (0,) + value
        yield value + value[:1] if value else (None,)
        if value:
            yield value[:-1]
            yield value[1:]
        for at, item in enumerate(value):
            for other in variants(item):
                yield value[:at] + (other,) + value[at + 1:]
    elif isinstance(value, bool):
        yield int(value)
    elif isinstance(value, int):
        for other in (value - 1, value + 1, -value - 1, 3, 7, 8, 40, 41, 65535, 65536, 10 ** 20):
            yield other
        yield True
        yield False
        yield bool(value)
        yield (value,)
    elif isinstance(value, str):
        yield value + "x"
        yield value.upper()
        yield value.encode()
        yield "load"
        yield (value,)
    yield None
    yield ""
    yield "text"
    yield deep(80)
    yield Odd()


class Draw:
    """Drawn numbers that are the same in each run."""

    def __init__(self, seed):
        self.state = seed * 7919 + 17

    def below(self, many):
        self.state = (self.state * 6364136223846793005 + 1442695040888963407) % 2 ** 64
        return (self.state >> 33) % many

    def one_of(self, items):
        return items[self.below(len(items))]

    def word(self):
        return self.one_of((0, 1, 2, 3, 5, 65535, 40000, 7))


SUMS = ("add", "sub", "and", "xor", "below")


def drawn_instruction(draw, rows, names):
    name = draw.one_of(names)
    few = 4
    if name == "set":
        return ("set", draw.below(few), draw.word())
    if name in SUMS:
        return (name, draw.below(few), draw.below(few), draw.below(few))
    if name in ("load", "store"):
        return (name, draw.below(few), draw.one_of((0, 7, 7, 1)), draw.one_of((0, 1, 2, 3, 65535)))
    if name in ("swap", "addto"):
        return (name, draw.below(few), draw.below(few), draw.one_of((0, 7, 7, 1)), draw.below(4))
    if name == "ifzero":
        return ("ifzero", draw.below(few), draw.below(rows + 1))
    if name == "jump":
        return ("jump", draw.below(rows + 1))
    return (name,)


ALL_NAMES = ("set", "set", "load", "load", "store", "store", "store", "swap", "addto", "fence", "gap",
             "ifzero", "ifzero", "jump", "stop") + SUMS
STRAIGHT_NAMES = tuple(name for name in ALL_NAMES if name not in ("ifzero", "jump"))


def drawn_book(draw, cores, rows, names=ALL_NAMES):
    book = []
    for _ in range(cores):
        many = draw.below(rows + 1)
        book.append(tuple(drawn_instruction(draw, many, names) for _ in range(many)))
    return tuple(book)


def leads_on(book):
    """Whether no row leads back, to itself or to an earlier row."""
    return all(instruction[-1] > row for rows in book for row, instruction in enumerate(rows)
               if instruction[0] in ("ifzero", "jump"))


LIVELY_NAMES = ("store", "load", "store", "load", "gap", "store", "load", "swap", "fence", "addto", "ifzero", "add")


def lively_book(draw, cores, rows, names=LIVELY_NAMES, cells=2):
    """A book in which each core stores its own words and loads cells that others store to."""
    book = []
    for core in range(cores):
        many = 1 + draw.below(rows)
        made = []
        if draw.below(4):
            made.append(("set", 1, core + 1))
        while len(made) < many:
            name = draw.one_of(names)
            cell = draw.below(cells)
            target = 2 + sum(i[0] == "load" for i in made) % 4
            if name in ("load", "store"):
                made.append((name, target if name == "load" else draw.one_of((1, 1, 0, 2)), 7, cell))
            elif name in ("swap", "addto"):
                made.append((name, target, 1, 7, cell))
            elif name == "ifzero":
                made.append(("ifzero", 2, len(made) + 1 + draw.below(many - len(made))))
            elif name == "add":
                made.append(("add", 1, 1, draw.one_of((1, 2))))
            else:
                made.append((name,))
        book.append(tuple(made))
    return tuple(book)


def passing_book(draw):
    """A book in which one core stores to several cells and another loads them, or does the same."""
    def between():
        return ((draw.one_of(("gap", "fence", "gap")),),) if draw.below(3) == 0 else ()
    one, other, first = (("set", 1, 1 + draw.below(2)),), (), draw.below(2)
    if draw.below(4) == 0:
        one += (("store", 1, 7, draw.below(2)),)
    one += (("store", 1, 7, first),) + between() + (("store", 1, 7, 1 - first if draw.below(4) else first),)
    if draw.below(3) == 0:
        one += between() + (("load", 2, 7, draw.below(2)),)
    if draw.below(4) == 0:
        other += (("set", 1, 3), ("store", 1, 7, draw.below(2))) + between()
    other += (("load", 2, 7, 1 - first),) + between() + (("load", 3, 7, first if draw.below(4) else 1 - first),)
    return (one, other)
