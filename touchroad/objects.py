"""The kinds of shared objects, their states, calls and histories.

A call is (hand, operation, answer, invoked, returned).
"""

from touchroad.values import is_between, is_one_of, is_tuple_of, is_word

KINDS = ("register", "counter", "lock", "queue", "stack")

# The operations of each kind as (name, whether a word follows, the answers): answers are None, words or either.
OPERATIONS = {
    "register": (("put", True, "none"), ("get", False, "word")),
    "counter": (("add", True, "word"),),
    "lock": (("take", False, "none"), ("give", False, "none")),
    "queue": (("put", True, "none"), ("take", False, "either")),
    "stack": (("put", True, "none"), ("take", False, "either")),
}

LAST_TIME = 1000000000000000000000000000000


def form_of(kind, name):
    """Return (name, whether a word follows, the answers) of any object as a name, None if it is none of the kind."""
    for form in OPERATIONS[kind]:
        if isinstance(name, str) and form[0] == name:
            return form
    return None


def is_answer(value, answers):
    """Return whether any object is one of the answers."""
    if value is None:
        return answers != "word"
    return answers != "none" and is_word(value)


def is_operation(kind, operation, answer):
    """Return whether any objects are an operation of a kind and an answer of it."""
    if not isinstance(operation, tuple) or len(operation) == 0:
        return False
    form = form_of(kind, operation[0])
    if form is None or not is_answer(answer, form[2]):
        return False
    if not form[1]:
        return len(operation) == 1
    return len(operation) == 2 and is_word(operation[1])


def is_call(kind, value):
    """Return whether any object is a call of an operation of a kind."""
    if not is_tuple_of(value, 5) or not is_between(value[0], 0, 3) or not is_operation(kind, value[1], value[2]):
        return False
    if not is_between(value[3], 0, LAST_TIME) or not is_between(value[4], 0, LAST_TIME):
        return False
    return value[3] < value[4]


def is_history_value(kind, value):
    """Return whether any object is a history of a kind."""
    if not isinstance(value, tuple) or len(value) > 10 or not all([is_call(kind, call) for call in value]):
        return False
    if not all([one[3] < other[3] for one, other in zip(value, value[1:])]):
        return False
    times = [call[3] for call in value] + [call[4] for call in value]
    return len(set(times)) == len(times)


def is_kind(value):
    """Return whether any object is a kind."""
    return is_one_of(value, KINDS)


def first_state(kind):
    """Return the initial state of a kind."""
    return 0 if kind in ("register", "counter") else ()


def is_state(kind, value):
    """Return whether any object is a state of a kind."""
    if kind in ("register", "counter"):
        return is_word(value)
    if not isinstance(value, tuple):
        return False
    if kind == "lock":
        return len(value) == 0 or len(value) == 1 and is_between(value[0], 0, 3)
    return all([is_word(word) for word in value])


def after_word_call(kind, state, operation, answer):
    """Return (state,) after a call of a register or a counter, () if it is not possible."""
    if operation[0] == "put":
        return (operation[1],)
    if answer != state:
        return ()
    return ((state + operation[1]) % 65536,) if kind == "counter" else (state,)


def after_lock_call(state, hand, name):
    """Return (state,) after a call of a lock, () if it is not possible."""
    if name == "take":
        return ((hand,),) if state == () else ()
    return ((),) if state == (hand,) else ()


def after_take(kind, state, answer):
    """Return (state,) after a take of a queue or a stack, () if it is not possible with its answer."""
    if state == ():
        return (state,) if answer is None else ()
    removed, left = (state[0], state[1:]) if kind == "queue" else (state[-1], state[:-1])
    return (left,) if answer == removed else ()


def state_by_call(kind, state, call):
    """Return (state,) after a call, () if the call is not possible in a state with its answer."""
    hand, operation, answer, _, _ = call
    if kind in ("register", "counter"):
        return after_word_call(kind, state, operation, answer)
    if kind == "lock":
        return after_lock_call(state, hand, operation[0])
    if operation[0] == "put":
        return (state + (operation[1],),)
    return after_take(kind, state, answer)


def is_ahead(one, other):
    """Return whether a call is ahead of another one."""
    return one[4] < other[3]
