"""The search for linearizations and refutations, for histories that have been checked.

A point is (done, state): done is the set of the calls that were done, as an integer in which the bit 1 << i stands for
the call i, and state is the state after them.
"""

from touchroad.objects import first_state, is_ahead, is_state, state_by_call
from touchroad.values import is_ascending, is_between, is_tuple_of


def ahead_of(history):
    """Return the list of the sets of the calls that are ahead of each call."""
    return [
        sum([1 << other for other, earlier in enumerate(history) if is_ahead(earlier, call)])
        for call in history
    ]


def moves_from(kind, history, ahead, point):
    """Return the list of (call, point after it) for each call that may come next at a point, the calls ascending."""
    done, state = point
    moves = []
    for index, call in enumerate(history):
        if done >> index & 1 or ahead[index] & ~done:
            continue
        moves.extend([(index, (done | 1 << index, after)) for after in state_by_call(kind, state, call)])
    return moves


def moves_by_point(kind, history):
    """Return a dict with the moves from each point that can be reached, points with fewer calls first."""
    ahead = ahead_of(history)
    moves = {}
    waiting = [(0, first_state(kind))]
    while len(waiting) > 0:
        following = []
        for point in waiting:
            if point not in moves:
                moves[point] = moves_from(kind, history, ahead, point)
                following.extend([after for _, after in moves[point]])
        waiting = following
    return moves


def ways_by_point(history, moves):
    """Return a dict with the number of the linearizations that go on from each point."""
    full = (1 << len(history)) - 1
    ways = {}
    for point in list(moves)[::-1]:
        ways[point] = 1 if point[0] == full else sum([ways[after] for _, after in moves[point]])
    return ways


class Count:
    """All points of a history, with the moves from each and the number of the linearizations that go on from it."""

    def __init__(self, kind, history):
        self.start = (0, first_state(kind))
        self.moves = moves_by_point(kind, history)
        self.ways = ways_by_point(history, self.moves)


def chosen_move(count, point, number):
    """Return (call, point after it, index from there on) of the linearization with an index among those that go on."""
    for call, after in count.moves[point]:
        if number < count.ways[after]:
            return call, after, number
        number -= count.ways[after]
    return None


def linearization_with(count, length, number):
    """Return the linearization of so many calls with an index among all, None if there are not so many."""
    point = count.start
    if number >= count.ways[point]:
        return None
    calls = ()
    for _ in range(length):
        call, point, number = chosen_move(count, point, number)
        calls = calls + (call,)
    return calls


def number_below(count, linearization):
    """Return how many linearizations are less than a given one."""
    point = count.start
    number = 0
    for call in linearization:
        number += sum([count.ways[after] for other, after in count.moves[point] if other < call])
        point = [after for other, after in count.moves[point] if other == call][0]
    return number


def calls_in(done, length):
    """Return the ascending tuple of the calls of a set."""
    return tuple([call for call in range(length) if done >> call & 1])


def refutation_of(count, length):
    """Return the refutation that has all points of a history of so many calls without a linearization."""
    return tuple(sorted([(calls_in(done, length), state) for done, state in count.moves]))


def is_linearization(kind, history, value):
    """Return whether any object is a linearization."""
    if not is_tuple_of(value, len(history)):
        return False
    if not all([is_between(index, 0, len(history) - 1) for index in value]):
        return False
    ahead = ahead_of(history)
    point = (0, first_state(kind))
    for index in value:
        found = [after for call, after in moves_from(kind, history, ahead, point) if call == index]
        if len(found) == 0:
            return False
        point = found[0]
    return True


def is_point(kind, history, value):
    """Return whether any object is (done, state) with an ascending tuple of calls, but not of all, and a state."""
    if not is_tuple_of(value, 2) or not is_ascending(value[0], len(history)):
        return False
    return len(value[0]) < len(history) and is_state(kind, value[1])


def is_refutation(kind, history, value):
    """Return whether any object is a refutation."""
    if not isinstance(value, tuple) or not all([is_point(kind, history, item) for item in value]):
        return False
    if not all([one < other for one, other in zip(value, value[1:])]):
        return False
    ahead = ahead_of(history)
    points = {(sum([1 << call for call in done]), state): True for done, state in value}
    if (0, first_state(kind)) not in points:
        return False
    return all([
        after in points
        for point in points
        for _, after in moves_from(kind, history, ahead, point)
    ])
