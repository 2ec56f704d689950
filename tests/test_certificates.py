import itertools
import unittest

from touchroad.behaviours import behaviour_end, behaviour_ends, broken
from touchroad.certificates import certificate_size, certifies, decide
from touchroad.errors import InvalidCertificate, InvalidEnd, InvalidMemory, InvalidProgram, NotShort
from tests import reference_programs as told
from tests.helpers import WRONG, Odd, check_boolean, check_examples, check_raises, deep, same, variants
from tests.test_behaviours import NOT_SHORT, PASSING, UPDATES, small_programs

EXAMPLES = """
>>> from touchroad.certificates import certificate_size, certifies, decide
>>> passing = ((("set", 1, 1), ("put", 1, 0, 0, "loose"), ("put", 1, 0, 1, "give")), (("get", 1, 0, 1, "take"), ("get", 2, 0, 0, "loose")))
>>> old = (((0, 1, 0, 0, 0, 0), (0, 1, 0, 0, 0, 0)), (1, 1))
>>> tree = ("read", 2, ((-1, ("word", 1, 1)), (1, ("read", 3, ((-1, ("back", (0, 1, 2, 3), (3, 0))), (0, ("word", 1, 2)))))))
>>> against = ("paths", ((((), ()), tree),))
>>> [certifies(passing, (0, 0), old, against), certificate_size(against), decide(passing, (0, 0), old)[0]]
[True, 3, 'certificate']
"""

OLD = (((0, 1, 0, 0, 0, 0), (0, 1, 0, 0, 0, 0)), (1, 1))
TREE = ("read", 2, ((-1, ("word", 1, 1)), (1, ("read", 3, ((-1, ("back", (0, 1, 2, 3), (3, 0))), (0, ("word", 1, 2)))))))
AGAINST = ("paths", ((((), ()), TREE),))


def is_int(value, low, high):
    return type(value) is int and low <= value <= high


class Checker:
    """A second checker: it goes by the words of the document, pair by pair."""

    def __init__(self, program, memory, end, paths):
        self.program, self.memory, self.end = program, memory + (0,), end
        self.actions = told.actions_of(program, paths)
        self.events = told.events_of(program, memory, paths)
        self.touch = [self.actions[h][at] for h, at, _, _ in self.events]
        self.number = {(h, at): i for i, (h, at, _, _) in enumerate(self.events)}

    def is_event(self, i):
        return is_int(i, 0, len(self.events) - 1)

    def reads(self, i):
        return self.touch[i][0] in told.READS

    def writes(self, i):
        return self.touch[i][0] in told.WRITES

    def writers(self, cell):
        return [i for i, e in enumerate(self.events) if e[3] == cell and self.writes(i)]

    def precedes(self, i, k):
        return i < k and self.events[i][0] == self.events[k][0]

    def synchronizes(self, g, k, picked):
        if self.touch[g][-1] not in ("give", "both", "whole") or self.touch[k][-1] not in ("take", "both", "whole"):
            return False
        at, passed = picked.get(k, -1), []
        while at != -1 and at not in passed:
            if at == g:
                return True
            passed.append(at)
            at = picked.get(at, -1) if self.reads(at) else -1
        return False

    def forced(self, i, k, picked, pairs):
        if picked.get(k) == i or (i, k) in pairs:
            return True
        if i not in picked or not self.writes(k) or i == k or self.events[i][3] != self.events[k][3]:
            return False
        return picked[i] == -1 or (picked[i], k) in pairs

    def certifies(self, value):
        return self.takes(value, {}, ())

    def takes(self, tree, picked, pairs):
        if type(tree) is not tuple or not tree or type(tree[0]) is not str:
            return False
        name, parts = tree[0], tree[1:]
        if name == "read" and len(parts) == 2:
            i, branches = parts
            if not self.is_event(i) or not self.reads(i) or i in picked or type(branches) is not tuple:
                return False
            if not all(type(p) is tuple and len(p) == 2 and type(p[0]) is int for p in branches):
                return False
            sources = [-1] + [w for w in self.writers(self.events[i][3]) if w != i]
            return [p[0] for p in branches] == sources and all(self.takes(p[1], {**picked, i: p[0]}, pairs) for p in branches)
        if name == "first" and len(parts) == 4:
            i, k = parts[:2]
            if not self.is_event(i) or not self.is_event(k) or i == k or self.events[i][3] != self.events[k][3]:
                return False
            if not self.writes(i) or not self.writes(k) or (i, k) in pairs or (k, i) in pairs:
                return False
            return self.takes(parts[2], picked, pairs + ((i, k),)) and self.takes(parts[3], picked, pairs + ((k, i),))
        return self.takes_leaf(name, parts, picked, pairs)

    def takes_leaf(self, name, parts, picked, pairs):
        def events(part):
            return type(part) is tuple and len(part) > 1 and all(self.is_event(i) for i in part)
        if name in ("round", "circle") and len(parts) == 1 and events(parts[0]) and len(set(parts[0])) == len(parts[0]):
            ring = list(zip(parts[0], parts[0][1:] + parts[0][:1]))
            if name == "circle":
                return all(self.forced(i, k, picked, pairs) for i, k in ring)
            return all(self.precedes(i, k) or picked.get(k) == i for i, k in ring)
        if name == "back" and len(parts) == 2 and events(parts[0]) and events(parts[1]):
            before, under = parts
            return (before[0] == under[-1] and before[-1] == under[0]
                    and all(self.precedes(i, k) or self.synchronizes(i, k, picked) for i, k in zip(before, before[1:]))
                    and all(self.forced(i, k, picked, pairs) for i, k in zip(under, under[1:])))
        if name == "between" and len(parts) == 2 and self.is_event(parts[0]) and self.is_event(parts[1]):
            i, k = parts
            return self.reads(i) and self.writes(i) and (k, i) in pairs and i in picked and (
                picked[i] == -1 or (picked[i], k) in pairs)
        if name == "branch" and len(parts) == 2 and is_int(parts[0], 0, len(self.program) - 1):
            hand, index = parts
            if not is_int(index, 0, len(self.actions[hand]) - 1) or self.actions[hand][index][0] != "branch":
                return False
            word = self.variable(hand, index, self.actions[hand][index][1], picked, ())
            return word is not None and (word != 0) != self.actions[hand][index][2]
        if name == "await" and len(parts) == 1 and self.is_event(parts[0]) and self.touch[parts[0]][0] == "await":
            hand, index = self.events[parts[0]][:2]
            words = self.read(parts[0], picked, ()), self.variable(hand, index, self.touch[parts[0]][1], picked, ())
            return None not in words and words[0] != words[1]
        if name == "word" and len(parts) == 2 and is_int(parts[0], 0, len(self.program) - 1) and is_int(parts[1], 0, 5):
            word = self.variable(parts[0], len(self.actions[parts[0]]), parts[1], picked, ())
            return word is not None and word != self.end[0][parts[0]][parts[1]]
        if name == "cell" and len(parts) == 1 and is_int(parts[0], 0, len(self.memory) - 2):
            word = self.last_word(parts[0], picked, pairs)
            return word is not None and word != self.end[1][parts[0]]
        return False

    def variable(self, hand, index, v, picked, passed):
        """The word of a variable before an action, None if it is not known."""
        for at in range(index - 1, -1, -1):
            action = self.actions[hand][at]
            if action[0] in ("put", "await", "whole", "branch") or action[1] != v:
                continue
            if action[0] == "set":
                return action[2]
            if action[0] in ("get", "swap", "addto"):
                return self.read(self.number[hand, at], picked, passed)
            words = [self.variable(hand, at, one, picked, passed) for one in action[2:]]
            return None if None in words else told.summed(action[0], *words)
        return 0

    def read(self, i, picked, passed):
        if i not in picked or i in passed:
            return None
        return self.memory[self.events[i][3]] if picked[i] == -1 else self.written(picked[i], picked, passed + (i,))

    def written(self, i, picked, passed):
        hand, index, name, _ = self.events[i]
        if name == "whole":
            return 0
        given = self.variable(hand, index, self.touch[i][-4], picked, passed)
        if name != "addto":
            return given
        old = self.read(i, picked, passed)
        return None if old is None or given is None else (old + given) % 65536

    def last_word(self, cell, picked, pairs):
        if not self.writers(cell):
            return self.memory[cell]
        for last in self.writers(cell):
            leading = {last}
            for _ in self.events:
                leading |= {a for a, b in pairs if b in leading}
            if not any(a == last for a, _ in pairs) and leading >= set(self.writers(cell)):
                return self.written(last, picked, ())
        return None


def takes(program, memory, end, value):
    if type(value) is not tuple or len(value) != 2 or type(value[0]) is not str or value[0] != "paths" or type(value[1]) is not tuple:
        return False
    paths = told.paths_of(program)
    if not all(type(part) is tuple and len(part) == 2 for part in value[1]):
        return False
    return same([part[0] for part in value[1]], paths) and all(
        Checker(program, memory, end, part[0]).certifies(part[1]) for part in value[1])


def leaves(tree):
    if tree[0] == "read":
        return [leaf for _, part in tree[2] for leaf in leaves(part)]
    return leaves(tree[3]) + leaves(tree[4]) if tree[0] == "first" else [tree]


def replaced_leaves(tree, make):
    """The trees in which one leaf is replaced by what make says."""
    if tree[0] == "read":
        for at, (source, part) in enumerate(tree[2]):
            for other in replaced_leaves(part, make):
                yield tree[:2] + (tree[2][:at] + ((source, other),) + tree[2][at + 1:],)
    elif tree[0] == "first":
        for at in (3, 4):
            for other in replaced_leaves(tree[at], make):
                yield tree[:at] + (other,) + tree[at + 1:]
    else:
        yield from make(tree)


def near_ends(draw, ends, memory, program, most):
    """Ends that there are, and others that differ from them in words that are near."""
    found = list(ends)[:most]
    for end in list(ends)[:most] or [(((0,) * 6,) * len(program), memory)]:
        hand, v, cell = draw.below(len(program)), draw.below(5), draw.below(len(memory))
        words = end[0][hand][:v] + (draw.below(4),) + end[0][hand][v + 1:]
        found.append((end[0][:hand] + (words,) + end[0][hand + 1:], end[1]))
        found.append((end[0], end[1][:cell] + (draw.below(4),) + end[1][cell + 1:]))
        found.append((draw.one_of(list(ends) or [end])[0], draw.one_of(list(ends) or [end])[1]))
    return found


class Decided(unittest.TestCase):
    def test_examples(self):
        check_examples(self, EXAMPLES)

    def test_each_end_has_one_or_the_other(self):
        """T1 and T2, for drawn programs and ends."""
        kinds, answers = set(), [0, 0]
        for names, seed in ((told.STATEMENTS, 301), (UPDATES, 302), (("put", "get", "put", "get", "await", "set"), 303)):
            for draw, program, memory in small_programs(seed, 60, 400, names=names):
                ends = behaviour_ends(program, memory)
                for end in near_ends(draw, ends, memory, program, 3):
                    kind, found = decide(program, memory, end)
                    self.assertEqual(kind, "behaviour" if end in ends else "certificate")
                    answers[kind == "behaviour"] += 1
                    if kind == "behaviour":
                        self.assertIsNone(broken(program, memory, found))
                        self.assertEqual(behaviour_end(program, memory, found), end)
                        continue
                    self.assertTrue(takes(program, memory, end, found), (program, memory, end, found))
                    check_boolean(self, True, certifies(program, memory, end, found))
                    every = [leaf for _, tree in found[1] for leaf in leaves(tree)]
                    self.assertEqual(certificate_size(found), len(every))
                    kinds |= {leaf[0] for leaf in every}
                    for other in ends[:4]:
                        check_boolean(self, False, certifies(program, memory, other, found))
        self.assertGreater(min(answers), 100)
        self.assertTrue({"round", "circle", "back", "branch", "await", "word", "cell"} <= kinds, kinds)

    def test_certificates_with_one_part_wrong(self):
        counts = {}
        for names, seed in ((told.STATEMENTS, 304), (UPDATES, 305), (("put", "swap", "get", "await", "set", "whole"), 306)):
            for draw, program, memory in small_programs(seed, 30, 80, hands=2, size=3, names=names):
                ends = behaviour_ends(program, memory)
                for end in near_ends(draw, ends, memory, program, 1):
                    kind, found = decide(program, memory, end)
                    if kind == "behaviour" or len(repr(found)) > 1500:
                        continue
                    for value in list(variants(found))[:: 1 + draw.below(5)]:
                        good = takes(program, memory, end, value)
                        counts[good] = counts.get(good, 0) + 1
                        check_boolean(self, good, certifies(program, memory, end, value))
                    for at, (paths, tree) in enumerate(found[1]):
                        for other in replaced_leaves(tree, self.other_leaves(program, memory, draw)):
                            value = ("paths", found[1][:at] + ((paths, other),) + found[1][at + 1:])
                            good = takes(program, memory, end, value)
                            counts[good] = counts.get(good, 0) + 1
                            check_boolean(self, good, certifies(program, memory, end, value))
        self.assertGreater(min(counts[True], counts[False]), 100, counts)

    def other_leaves(self, program, memory, draw):
        def make(tree):
            some = [draw.below(6) for _ in range(4)]
            options = [("round", tuple(some[:2])), ("circle", tuple(some[:2])), ("back", tuple(some[:2]), (some[1], some[0])),
                       ("between", some[0], some[1]), ("branch", some[0] % 3, some[1]), ("await", some[0]), ("word", some[0] % 3, some[1]),
                       ("cell", some[0] % 3), ("circle", tuple(some[:3])), ("read", some[0], ((-1, tree),)),
                       ("first", some[0], some[1], tree, tree), ("first", some[1], some[0], tree, ("cell", 0))]
            if tree[0] in ("round", "circle"):
                options += [("round", tree[1]), ("circle", tree[1]), (tree[0], tree[1][1:] + tree[1][:1]), (tree[0], tree[1][::-1]),
                            (tree[0], tree[1] * 2)]
            if tree[0] == "back":
                options += [tree[:1] + (tree[1][::-1],) + tree[2:], tree[:2] + (tree[2][::-1],), ("circle", tree[2][:-1])]
            return options
        return make

    def test_shapes_of_trees(self):
        """Each shape, right and with one part wrong, where it is against the end."""
        swaps = ((("swap", 1, 0, 5, 0, "both"),), (("swap", 1, 0, 5, 0, "both"),), (("put", 0, 5, 0, "loose"),))
        end = (((0, 7, 0, 0, 0, 0),) * 2 + ((0,) * 6,), (0,))
        kind, found = decide(swaps, (7,), end)
        self.assertEqual(kind, "certificate")
        self.assertTrue(takes(swaps, (7,), end, found))
        # 0 and 1 both read the first word: whichever is first is between the other and its source.
        def tree_with(one, other):
            parts = ((-1, ("first", 0, 1, one, other)), (0, ("word", 1, 1)), (2, ("word", 1, 1)))
            return ("read", 0, ((-1, ("read", 1, parts)), (1, ("word", 0, 1)), (2, ("word", 0, 1))))
        for one, other in ((("between", 1, 0), ("between", 0, 1)), (("between", 0, 1), ("between", 0, 1)), (("between", 1, 0), ("between", 1, 0))):
            value = ("paths", ((((), (), ()), tree_with(one, other)),))
            check_boolean(self, takes(swaps, (7,), end, value), certifies(swaps, (7,), end, value))
        alone = (swaps[0], swaps[1])
        end = (((0, 7, 0, 0, 0, 0),) * 2, (0,))
        def value_with(one):
            first = ("first", 0, 1, one, ("between", 0, 1))
            tree = ("read", 0, ((-1, ("read", 1, ((-1, first), (0, ("word", 1, 1))))), (1, ("word", 0, 1))))
            return ("paths", ((((), ()), tree),))
        self.assertTrue(takes(alone, (7,), end, value_with(("between", 1, 0))))
        check_boolean(self, True, certifies(alone, (7,), end, value_with(("between", 1, 0))))
        for other in (("circle", (0, 1)), ("between", 0, 1), ("between", 1, 1), ("between", 1, 0, 0), ("between", True, 0), ("between", 1)):
            expected = takes(alone, (7,), end, value_with(other))
            check_boolean(self, expected, certifies(alone, (7,), end, value_with(other)))
            self.assertEqual(expected, other == ("circle", (0, 1)))

    def test_leaves_under_drawn_picks(self):
        """Each leaf beside leaves that are always right, since variable 5 is never set and the end has 9 for it."""
        counts = {}
        for names, seed in ((told.STATEMENTS, 307), (UPDATES, 308), (("put", "swap", "addto", "whole"), 309), (("get", "await", "put", "set"), 310)):
            for draw, program, memory in small_programs(seed, 25, 20000, hands=3, size=4, names=names):
                if len(told.paths_of(program)) > 4:
                    continue
                end = (((0, 0, 0, 0, 0, 9),) + ((0,) * 6,) * (len(program) - 1), memory)
                always = ("word", 0, 5)
                for paths in told.paths_of(program):
                    checker = Checker(program, memory, end, paths)
                    for _ in range(25):
                        leaf = self.drawn_leaf(draw, len(checker.events))
                        tree = self.around(draw, checker, leaf, always, draw.below(6) if checker.events else 0)
                        value = ("paths", tuple((own, tree if own == paths else always) for own in told.paths_of(program)))
                        good = takes(program, memory, end, value)
                        key = (leaf[0] if leaf else None, good)
                        counts[key] = counts.get(key, 0) + 1
                        check_boolean(self, good, certifies(program, memory, end, value))
        for name in ("round", "circle", "back", "between", "branch", "await", "word", "cell"):
            self.assertTrue(name == "between" or counts.get((name, True), 0) > 0, (name, counts))
            self.assertGreater(counts.get((name, False), 0), 10, (name, counts))

    def drawn_leaf(self, draw, many):
        some = [draw.below(max(1, many)) for _ in range(4)]
        return draw.one_of((("round", tuple(some[:2])), ("circle", tuple(some[:2])), ("circle", tuple(some[:3])), ("back", tuple(some[:2]), tuple(some[1::-1])),
                            ("between", some[0], some[1]), ("between", some[0], some[1]), ("branch", draw.below(2), draw.below(4)), ("await", some[0]),
                            ("word", draw.below(2), draw.below(5)), ("cell", draw.below(3)), ("back", tuple(some[:3]), (some[2], some[0])), ()))

    def around(self, draw, checker, leaf, always, levels):
        """A tree of drawn decisions in which the leaf stands once."""
        tree, done = leaf, []
        for _ in range(levels):
            i = draw.below(len(checker.events))
            if draw.below(2) and checker.reads(i) and i not in done:
                sources = [-1] + [w for w in checker.writers(checker.events[i][3]) if w != i]
                at = draw.one_of(sources)
                tree = ("read", i, tuple((source, tree if source == at else always) for source in sources))
                done.append(i)
            elif checker.writes(i):
                others = [w for w in checker.writers(checker.events[i][3]) if w != i and (i, w) not in done and (w, i) not in done]
                if others:
                    k = draw.one_of(others)
                    tree = ("first", i, k, tree, always) if draw.below(2) else ("first", i, k, always, tree)
                    done.append((i, k))
        return tree

    def test_between_and_await_need_what_is_chosen(self):
        program = ((("swap", 1, 0, 5, 0, "loose"),), (("swap", 1, 0, 5, 0, "loose"),), (("put", 0, 5, 0, "loose"),))
        end = (((0, 0, 0, 0, 0, 9),) + ((0,) * 6,) * 2, (0,))
        right = ("word", 0, 5)

        def read(source, inner):
            return ("read", 1, tuple((own, inner if own == source else right) for own in (-1, 0, 2)))
        for leaf, good in ((("between", 1, 2), True), (("between", 1, 0), False), (("between", 2, 0), False), (("between", 0, 2), False), (("between", 2, 1), False)):
            ordered = ("first", 0, 2, ("first", 2, 1, leaf, right), right)
            late = ("first", 2, 1, leaf, right)
            for tree, expected in ((read(0, ordered), good), (ordered, False), (read(0, late), False), (read(-1, late), good), (read(2, ordered), False)):
                check_boolean(self, expected, certifies(program, (7,), end, ("paths", ((((), (), ()), tree),))))
        program = ((("get", 1, 5, 0, "loose"), ("await", 1, 5, 1, "loose")),)
        end = (((0, 0, 0, 0, 0, 9),), (7, 8))
        for first, second in ((0, 1), (1, 0)):
            both = ("read", first, ((-1, ("read", second, ((-1, ("await", 1)),))),))
            check_boolean(self, True, certifies(program, (7, 8), end, ("paths", ((((),), both),))))
            check_boolean(self, False, certifies(program, (7, 7), (end[0], (7, 7)), ("paths", ((((),), both),))))
            one = ("read", first, ((-1, ("await", 1)),))
            check_boolean(self, False, certifies(program, (7, 8), end, ("paths", ((((),), one),))))

    def test_nothing_is_chosen_or_ordered_twice(self):
        swaps = ((("put", 0, 5, 0, "loose"),), (("put", 0, 5, 0, "loose"),))
        end = (((0,) * 6,) * 2, (9,))
        leaf = ("first", 0, 1, ("cell", 0), ("cell", 0))
        for tree, good in ((leaf, True), (("first", 1, 0, ("cell", 0), ("cell", 0)), True), (("cell", 0), False),
                           (("first", 0, 1, leaf, ("cell", 0)), False), (("first", 0, 1, ("first", 1, 0, ("cell", 0), ("cell", 0)), ("cell", 0)), False),
                           (("first", 0, 1, ("cell", 0), leaf), False), (("first", 0, 0, ("cell", 0), ("cell", 0)), False),
                           (("first", 0, 2, ("cell", 0), ("cell", 0)), False), (("first", 0, 1, ("cell", 0), ("cell", 1)), False)):
            check_boolean(self, good, certifies(swaps, (7,), end, ("paths", ((((), ()), tree),))))
        program = ((("get", 1, 5, 0, "loose"),), (("put", 0, 5, 0, "loose"),))
        end = (((0, 9, 0, 0, 0, 0), (0,) * 6), (0,))
        leaf = ("read", 0, ((-1, ("word", 0, 1)), (1, ("word", 0, 1))))
        for tree, good in ((leaf, True), (("read", 0, ((-1, leaf), (1, ("word", 0, 1)))), False), (("read", 0, ((-1, ("word", 0, 1)),)), False),
                           (("read", 0, ((1, ("word", 0, 1)), (-1, ("word", 0, 1)))), False), (("read", 1, leaf[2]), False),
                           (("read", 0, leaf[2] + ((2, ("word", 0, 1)),)), False), (("read", 0, ((-1, ("word", 0, 1)), (True, ("word", 0, 1)))), False),
                           (("read", 0, list(leaf[2])), False), (("word", 0, 1), False)):
            check_boolean(self, good, certifies(program, (7,), end, ("paths", ((((), ()), tree),))))

    def test_what_is_known(self):
        # The word of v1 comes from a sum of two reads, whatever the sum is.
        program = ((("get", 1, 5, 0, "loose"), ("get", 2, 5, 1, "loose"), ("xor", 3, 1, 1), ("and", 4, 1, 2)),)
        end = (((0, 7, 8, 1, 1, 0),), (7, 8))
        def only(i, tree):
            return ("read", i, ((-1, tree),))
        third, fourth = ("word", 0, 3), ("word", 0, 4)
        for tree, good in ((third, False), (only(0, third), True), (only(0, fourth), False), (only(1, third), False),
                           (only(0, only(1, fourth)), True), (only(1, only(0, fourth)), True), (only(0, ("word", 0, 1)), False)):
            check_boolean(self, good, certifies(program, (7, 8), end, ("paths", ((((),), tree),))))
        # A swap writes a word that is known before it is known what it reads; an addto does not.
        for name, good in (("swap", True), ("addto", False)):
            program = ((("set", 1, 5), (name, 2, 1, 5, 0, "loose")), (("get", 1, 5, 0, "loose"),))
            end = (((0, 5, 7, 0, 0, 0), (0, 9, 0, 0, 0, 0)), (5,))
            tree = ("read", 1, ((-1, ("word", 1, 1)), (0, ("word", 1, 1))))
            check_boolean(self, good, certifies(program, (7,), end, ("paths", ((((), ()), tree),))))
        # The hidden cell is no cell of the memory.
        program = ((("whole",),),)
        end = (((0,) * 6,), (8,))
        for tree, good in ((("cell", 0), True), (("cell", 1), False), (("word", 0, 0), False), (("word", 0, 6), False), (("word", 1, 0), False)):
            check_boolean(self, good, certifies(program, (7,), end, ("paths", ((((),), tree),))))
        # A word that goes round is not known.
        program = ((("get", 1, 5, 0, "loose"), ("put", 1, 5, 1, "loose")), (("get", 1, 5, 1, "loose"), ("put", 1, 5, 0, "loose")))
        end = (((0, 9, 0, 0, 0, 0),) * 2, (9, 9))
        for leaf, good in ((("round", (0, 1, 2, 3)), True), (("word", 0, 1), False), (("cell", 0), False), (("back", (0, 1), (1, 0)), False)):
            tree = ("read", 0, ((-1, ("word", 0, 1)), (3, ("read", 2, ((-1, ("word", 1, 1)), (1, leaf))))))
            check_boolean(self, good, certifies(program, (0, 0), end, ("paths", ((((), ()), tree),))))

    def test_deep_certificates(self):
        program = tuple((("set", 1, hand), ("put", 1, 5, 0, "loose"), ("put", 1, 5, 0, "loose")) for hand in range(3))
        end = (tuple((0, hand, 0, 0, 0, 0) for hand in range(3)), (9,))
        kind, found = decide(program, (0,), end)
        self.assertEqual(kind, "certificate")
        self.assertTrue(certifies(program, (0,), end, found))
        self.assertTrue(takes(program, (0,), end, found))
        self.assertEqual(certificate_size(found), len(leaves(found[1][0][1])))

    def test_a_tree_that_decides_everything(self):
        program = ((("put", 0, 5, 0, "loose"),) * 4, (("put", 0, 5, 0, "loose"),) * 3 + (("get", 1, 5, 0, "loose"),))
        end = (((0, 0, 0, 0, 0, 9), (0,) * 6), (0,))
        right = ("word", 0, 5)
        tree, size = right, 1
        for i, k in itertools.combinations(range(7), 2):
            tree, size = ("first", i, k, tree, right), size + 1
        tree, size = ("read", 7, tuple((source, tree if source == 3 else right) for source in range(-1, 7))), size + 7
        value = ("paths", ((((), ()), tree),))
        check_boolean(self, True, certifies(program, (0,), end, value))
        self.assertEqual(certificate_size(value), size)
        again = ("paths", ((((), ()), ("first", 5, 2, right, tree)),))
        check_boolean(self, False, certifies(program, (0,), end, again))
        self.assertEqual(certificate_size(again), size + 1)

    def test_paths(self):
        program = ((("get", 1, 5, 0, "loose"), ("if", 1, (("set", 2, 1),), ())), ())
        end = (((0, 4, 0, 0, 0, 0), (0,) * 6), (4,))
        kind, found = decide(program, (4,), end)
        no, yes = ((False,), ()), ((True,), ())
        read = ("read", 0, ((-1, ("branch", 0, 1)),))
        word = ("word", 0, 2)
        good_parts = ((no, read), (yes, word))
        wrong = [((yes, word), (no, read)), ((no, read),), ((no, word), (yes, word)), ((no, read), (yes, read)), (), good_parts + good_parts[1:],
                 ((yes, read), (yes, word)), ((no, read), (no, word)), ((((0,), ()), read), (yes, word)), ((([False], ()), read), (yes, word)), list(good_parts), ([no, read], (yes, word))]
        for parts, good in [(good_parts, True)] + [(parts, False) for parts in wrong]:
            check_boolean(self, good, certifies(program, (4,), end, ("paths", parts)))
        check_boolean(self, True, certifies(program, (4,), end, found))
        check_boolean(self, False, certifies(program, (4,), end, ("path",) + found[1:]))

    def test_other_objects(self):
        check_boolean(self, True, certifies(PASSING, (0, 0), OLD, AGAINST))
        for wrong in WRONG + (TREE, list(AGAINST), ("paths", list(AGAINST[1])), AGAINST + ((),), ("paths",), ("paths", ()), ("paths", (TREE,))):
            check_boolean(self, False, certifies(PASSING, (0, 0), OLD, wrong))
        for value in variants(AGAINST):
            check_boolean(self, takes(PASSING, (0, 0), OLD, value), certifies(PASSING, (0, 0), OLD, value))

    def test_errors_and_names(self):
        for wrong in WRONG + ([()], ((("get", 0, 0, 0, "give"),),)):
            check_raises(self, InvalidProgram, wrong, decide, wrong, wrong, None)
            check_raises(self, InvalidProgram, wrong, certifies, wrong, wrong, None, None)
        for wrong in NOT_SHORT:
            check_raises(self, NotShort, wrong, decide, wrong, None, None)
            check_raises(self, NotShort, wrong, certifies, wrong, None, None, None)
        for wrong in WRONG + ([0], (True,), (0,) * 33):
            check_raises(self, InvalidMemory, wrong, decide, PASSING, wrong, None)
            check_raises(self, InvalidMemory, wrong, certifies, PASSING, wrong, None, None)
        for wrong in WRONG + (OLD[:1], (OLD[0], (1,)), (OLD[0][:1], (1, 1)), (OLD[0], [1, 1]), (OLD[0], (1, True)), (((0,) * 8,) * 2, (1, 1))):
            check_raises(self, InvalidEnd, wrong, decide, PASSING, (0, 0), wrong)
            check_raises(self, InvalidEnd, wrong, certifies, PASSING, (0, 0), wrong, None)
        check_boolean(self, True, certifies(program=PASSING, memory=(0, 0), end=OLD, value=AGAINST))
        self.assertEqual(decide(program=PASSING, memory=(0, 0), end=OLD)[0], "certificate")
        self.assertEqual(decide(((),), (3,), (((0,) * 6,), (3,))), ("behaviour", (((),), (), ((), ()))))
        self.assertEqual(decide(((),), (3,), (((0,) * 6,), (4,))), ("certificate", ("paths", ((((),), ("cell", 0)),))))
        self.assertEqual(certificate_size(value=AGAINST), 3)


class Size(unittest.TestCase):
    def size(self, tree):
        return certificate_size(("paths", ((((),), tree),)))

    def test_good_shapes(self):
        leaf = ("cell", 10 ** 30)
        for tree, size in ((leaf, 1), (("round", (0, 10 ** 30)), 1), (("circle", (3, 2, 1)), 1), (("back", (0, 0), (5, 5, 5)), 1), (("between", 3, 3), 1),
                           (("branch", 99, 99), 1), (("await", 7), 1), (("word", 9, 9), 1), (("first", 3, 1, leaf, leaf), 2),
                           (("read", 9, ((-1, leaf),)), 1), (("read", 0, ((-1, leaf), (0, ("first", 0, 1, leaf, leaf)), (99, leaf))), 4)):
            self.assertEqual(self.size(tree), size)
        parts = ((((),), leaf), (((), ()), leaf), (((), (True,)), leaf), (((False, True), (), (), ()), leaf), (((True,),), leaf))
        self.assertEqual(certificate_size(("paths", parts)), 5)

    def test_bad_shapes(self):
        leaf = ("cell", 0)
        wrong = [("cell",), ("cell", -1), ("cell", True), ("cell", 0, 0), ("cell", "0"), ("round", ()), ("round", (1,)), ("round", (1, 1)),
                 ("round", (0, 1, 0)), ("round", [0, 1]), ("round", (0, -1)), ("round", (0, True)), ("round", (0, 1), 2), ("round",),
                 ("circle", (1, 1)), ("circle", (2,)), ("circle", 2), ("back", (0,), (1, 2)), ("back", (1, 2), (0,)), ("back", (1, 2)),
                 ("back", (1, 2), (3, 4), (5, 6)), ("back", (1, None), (3, 4)), ("back", [1, 2], (3, 4)), ("between", 1), ("between", 1, -1), ("between", 1, 2, 3),
                 ("branch", 0), ("branch", -1, 0), ("branch", 0, False), ("await",), ("await", -1), ("await", 0, 0), ("word", 0), ("word", 0, -1),
                 ("word", 0, 0, 0), ("first", 1, 1, leaf, leaf), ("first", 0, 1, leaf), ("first", 0, 1, leaf, leaf, leaf), ("first", 0, True, leaf, leaf),
                 ("first", -1, 1, leaf, leaf), ("first", 0, 1, leaf, ("cell",)), ("first", 0, 1, None, leaf), ("read", 0, ()), ("read", 0, ((0, leaf),)),
                 ("read", 0, ((-1, leaf), (-1, leaf))), ("read", 0, ((-1, leaf), (2, leaf), (1, leaf))), ("read", 0, ((-1, leaf), (1, leaf), (1, leaf))),
                 ("read", 0, ((-1, leaf, leaf),)), ("read", 0, [(-1, leaf)]), ("read", 0, ([-1, leaf],)), ("read", -1, ((-1, leaf),)), ("read", 0, ((-1, ("cell",)),)),
                 ("read", 0, ((-1, leaf), (True, leaf))), ("read", 0), ("read", 0, ((-1, leaf),), 0), ("read", 0, ((-2, leaf),)), ("read", 0, ((-2, leaf), (-1, leaf))),
                 ("ring", "own", (0, 1)), ("paths", ()), (), None, "cell", ["cell", 0], ("Cell", 0), (b"cell", 0), (Odd(), 0)]
        for tree in wrong:
            for value in (("paths", ((((),), tree),)), ("paths", ((((),), leaf), (((), ()), tree)))):
                check_raises(self, InvalidCertificate, value, certificate_size, value)
        for value in WRONG + (leaf, ("paths", ()), ("paths",), ["paths", ((((),), leaf),)], ("path", ((((),), leaf),)), ("paths", [(((),), leaf)]),
                              ("paths", ((((),), leaf), (((),), leaf))), ("paths", (((((True,),), leaf), (((False,),), leaf)))), ("paths", (((), leaf),)),
                              ("paths", ((((),) * 5, leaf),)), ("paths", ((((1,),), leaf),)), ("paths", ((([],), leaf),)), ("paths", (([()], leaf),)),
                              ("paths", ((((),), leaf, leaf),)), ("paths", ([((),), leaf],)), ("paths", ((((), None), leaf),)), ("paths", ((True, leaf),)),
                              ("paths", ((((),), leaf),), 0), ("paths", deep(90)), (Odd(), ((((),), leaf),)), ("paths", ((((), ()), leaf), (((),), leaf)))):
            check_raises(self, InvalidCertificate, value, certificate_size, value)


if __name__ == "__main__":
    unittest.main()
