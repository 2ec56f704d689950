"""Shared objects told again: an object that does operations, and searches that try everything."""

import itertools

from tests.helpers import Draw
from tests.reference import is_int

OPERATIONS = {"register": ("put", "get"), "counter": ("add",), "lock": ("take", "give"), "queue": ("put", "take"), "stack": ("put", "take")}
KINDS = tuple(OPERATIONS)
LAST = 10 ** 30


class Impossible(Exception):
    pass


class Shared:
    def __init__(self, kind, state=None):
        self.kind = kind
        self.state = state if state is not None else (0 if kind in ("register", "counter") else ())

    def do(self, hand, operation):
        """Does an operation; its answer."""
        name, state = operation[0], self.state
        if name == "put":
            self.state = operation[1] if self.kind == "register" else state + (operation[1],)
        elif name == "get":
            return state
        elif name == "add":
            self.state = (state + operation[1]) % 2 ** 16
            return state
        elif self.kind == "lock":
            if state != (() if name == "take" else (hand,)):
                raise Impossible
            self.state = (hand,) if name == "take" else ()
        elif state:
            at = 0 if self.kind == "queue" else len(state) - 1
            self.state = state[:at] + state[at + 1:]
            return state[at]
        return None


def after(kind, state, call):
    """(state,) after a call, () if it is not possible."""
    one = Shared(kind, state)
    try:
        answer = one.do(call[0], call[1])
    except Impossible:
        return ()
    return (one.state,) if answer == call[2] else ()


def is_state(kind, value):
    if kind in ("register", "counter"):
        return is_int(value, 0, 65535)
    highest = 3 if kind == "lock" else 65535
    return type(value) is tuple and all(is_int(w, 0, highest) for w in value) and (kind != "lock" or len(value) < 2)


def is_call(kind, value):
    if type(value) is not tuple or len(value) != 5:
        return False
    hand, operation, answer, invoked, returned = value
    if not is_int(hand, 0, 3) or not is_int(invoked, 0, LAST) or not is_int(returned, 0, LAST) or invoked >= returned:
        return False
    if type(operation) is not tuple or not operation or type(operation[0]) is not str or operation[0] not in OPERATIONS[kind]:
        return False
    name = operation[0]
    if name in ("put", "add"):
        if len(operation) != 2 or not is_int(operation[1], 0, 65535):
            return False
    elif len(operation) != 1:
        return False
    if name in ("get", "add"):
        return is_int(answer, 0, 65535)
    return answer is None or (name == "take" and kind in ("queue", "stack") and is_int(answer, 0, 65535))


def is_history(kind, value):
    if type(value) is not tuple or len(value) > 10 or not all(is_call(kind, call) for call in value):
        return False
    times = [t for call in value for t in call[3:]]
    return len(set(times)) == len(times) and [c[3] for c in value] == sorted(c[3] for c in value)


def ahead(history, i, k):
    return history[i][4] < history[k][3]


def is_linearization(kind, history, value):
    if type(value) is not tuple or not all(type(i) is int for i in value) or sorted(value) != list(range(len(history))):
        return False
    if any(ahead(history, k, i) for at, i in enumerate(value) for k in value[at + 1:]):
        return False
    states = (Shared(kind).state,)
    for i in value:
        states = after(kind, states[0], history[i])
        if not states:
            return False
    return True


def linearizations(kind, history):
    return [order for order in itertools.permutations(range(len(history))) if is_linearization(kind, history, order)]


def is_refutation(kind, history, value):
    if type(value) is not tuple:
        return False
    for item in value:
        if type(item) is not tuple or len(item) != 2 or not is_state(kind, item[1]) or type(item[0]) is not tuple:
            return False
        if not all(is_int(i, 0, len(history) - 1) for i in item[0]) or list(item[0]) != sorted(set(item[0])) or len(item[0]) == len(history):
            return False
    if list(value) != sorted(set(value)) or ((), Shared(kind).state) not in value:
        return False
    for done, state in value:
        for i in range(len(history)):
            if i not in done and all(k in done for k in range(len(history)) if ahead(history, k, i)):
                if any((tuple(sorted(done + (i,))), s) not in value for s in after(kind, state, history[i])):
                    return False
    return True


def drawn_operation(draw, kind, words):
    name = draw.one_of(OPERATIONS[kind])
    return (name, draw.one_of(words)) if name in ("put", "add") else (name,)


def drawn_history(draw, kind, many, words=(0, 1, 2, 65535), wrong=True):
    """A history in which calls take effect one after the other, within their times; then perhaps with one answer wrong."""
    one, calls = Shared(kind), []
    while len(calls) < many:
        hand, operation = draw.below(4), drawn_operation(draw, kind, words)
        try:
            answer = one.do(hand, operation)
        except Impossible:
            continue
        calls.append([hand, operation, answer])
    points = sorted(draw.below(1000) for _ in calls)
    times, made = {}, []
    wide = draw.one_of((5, 60, 300, 1000))
    for at, call in enumerate(calls):
        for which, time in ((0, points[at] - draw.below(wide)), (1, points[at] + draw.below(wide))):
            times[at, which] = (time, which, draw.below(99), at)
    order = sorted(times, key=times.get)
    step = draw.one_of((1, 3, 10 ** 28))
    number = {which: place * step + draw.below(step) for place, which in enumerate(order)}
    for at, call in enumerate(calls):
        made.append(tuple(call) + (number[at, 0], number[at, 1]))
    made.sort(key=lambda call: call[3])
    if wrong and made and draw.below(2):
        at = draw.below(len(made))
        hand, operation, answer, invoked, returned = made[at]
        if answer is not None or operation == ("take",) and kind != "lock":
            answer = draw.one_of(words if kind in ("register", "counter") else words + (None,))
        else:
            operation, hand = (operation[0], draw.one_of(words)) if len(operation) == 2 else operation, draw.below(4)
        made[at] = (hand, operation, answer, invoked, returned)
    return tuple(made)


def histories(seed, many, kind=None, most=6, words=(0, 1, 2, 65535)):
    draw = Draw(seed)
    for _ in range(many):
        one = kind or draw.one_of(KINDS)
        yield draw, one, drawn_history(draw, one, draw.below(most + 1), words)


def is_distinct(kind, history):
    words = [call[1][1] for call in history if call[1][0] == "put"]
    return len(set(words)) == len(words) and (kind == "queue" or 0 not in words)


def is_queue_fault(history, value):
    """Whether a value is a fault of a queue, by the words of the document."""
    calls = range(len(history))
    if type(value) is not tuple or len(value) < 2 or type(value[0]) is not str or not is_int(value[1], 0, len(history) - 1):
        return False
    put = {i: history[i][1][1] for i in calls if history[i][1][0] == "put"}
    removed = {i: history[i][2] for i in calls if i not in put and history[i][2] is not None}
    kind, k = value[:2]
    if kind == "fresh" and len(value) == 2:
        puts = [i for i in put if k in removed and put[i] == removed[k]]
        return k in removed and (not puts or ahead(history, k, puts[0]))
    if kind == "empty" and len(value) == 3:
        puts = value[2]
        if type(puts) is not tuple or not puts or not all(type(p) is int and p in put for p in puts) or k in put or k in removed:
            return False
        takers = [[i for i in removed if removed[i] == put[p]] for p in puts]
        return (ahead(history, puts[0], k) and all(ahead(history, k, i) for i in takers[-1])
                and all(takers[at] and all(ahead(history, puts[at + 1], i) for i in takers[at]) for at in range(len(puts) - 1)))
    if len(value) != 3 or not is_int(value[2], 0, len(history) - 1):
        return False
    i, k = value[1:]
    if kind == "twice":
        return i < k and i in removed and k in removed and removed[i] == removed[k]
    if kind == "overtaken" and i in put and k in put:
        of_y = [j for j in removed if removed[j] == put[k]]
        return bool(ahead(history, i, k) and of_y and all(any(ahead(history, j, late) for j in of_y) for late in removed if removed[late] == put[i]))
    return False


def queue_faults(history):
    calls = range(len(history))
    puts = [i for i in calls if history[i][1][0] == "put"]
    tried = [("fresh", k) for k in calls] + [(kind, i, k) for kind in ("twice", "overtaken") for i in calls for k in calls]
    tried += [("empty", k, way) for k in calls for many in (1, 2, 3, 4) for way in itertools.permutations(puts, many)]
    return [value for value in tried if is_queue_fault(history, value)]


def is_register_fault(history, value):
    if type(value) is not tuple or not value or type(value[0]) is not str or not all(type(part) is int for part in value[1:]):
        return False
    put = {call[1][1]: i for i, call in enumerate(history) if call[1][0] == "put"}
    got = [(i, call[2]) for i, call in enumerate(history) if call[1] == ("get",)]
    if value[0] == "fresh" and len(value) == 2:
        return any(i == value[1] and word != 0 and (word not in put or ahead(history, i, put[word])) for i, word in got)
    if value[0] != "zones" or len(value) != 3 or not all(w == 0 or w in put for w in value[1:]):
        return False
    zones = []
    for w in value[1:]:
        calls = [history[i] for i, word in got if word == w] + ([history[put[w]]] if w in put else [])
        low, high = min([c[4] for c in calls], default=-1), max([c[3] for c in calls], default=-1)
        zones.append((-1, high) if w == 0 else (low, high))
    (low_x, high_x), (low_y, high_y) = zones
    return value[1] < value[2] and low_x < high_y and low_y < high_x


def register_faults(history):
    words = [0] + [call[1][1] for call in history if call[1][0] == "put"]
    tried = [("fresh", k) for k in range(len(history))] + [("zones", x, y) for x in words for y in words]
    return [value for value in tried if is_register_fault(history, value)]
