"""The events of a short program on some paths, and where their words come from.

Sets and orders of events are as in sketches.py.
"""

from touchroad.books import SUMS, reads
from touchroad.scripts import walk_of
from touchroad.sketches import new_node, sum_node
from touchroad.statements import READING, SETTING, TOUCHES, WRITING


class Scene:
    """What a short program and a memory say of all behaviours with some paths.

    events are tuples (hand, index, name, cell), and touches has the touch of each; the hidden cell is the
    last one of memory here. nodes, taken, given, last and writers are as in a Sketch, last with the six
    variables of each hand. wanted has for each await the node of the word that it waits for, otherwise None.
    branches has a tuple (hand, index, node, outcome) for each branch action. precedes is an order.
    """

    def __init__(self, program, memory, paths):
        self.memory = memory + (0,)
        self.paths = paths
        self.events = []
        self.touches = []
        self.nodes = [("word", 0)]
        self.taken = []
        self.given = []
        self.wanted = []
        self.branches = []
        self.last = []
        for number, hand in enumerate(program):
            self.last.append(add_hand(self, number, walk_of(hand, paths[number]).actions))
        self.writers = [[] for _ in self.memory]
        for event, node in enumerate(self.given):
            if node is not None:
                self.writers[self.events[event][3]].append(event)
        self.precedes = preceding_order(self.events)


def cell_of_touch(scene, touch, variables):
    """Return the cell of a touch; in a short program the word on which it depends is never read."""
    hidden = len(scene.memory) - 1
    if touch[0] == "whole":
        return hidden
    return (scene.nodes[variables[touch[-3]]][1] + touch[-2]) % hidden


def given_node(scene, touch, variables, taken):
    """Return the node of the word that a touch writes, None if it writes none."""
    if touch[0] not in WRITING:
        return None
    if touch[0] == "whole":
        return 0
    given = variables[touch[-4]]
    return sum_node(scene, ("add",), taken, given) if touch[0] == "addto" else given


def add_touch(scene, hand, index, touch, variables):
    """Add the event of a touch of a hand with these nodes of its variables."""
    name = touch[0]
    cell = cell_of_touch(scene, touch, variables)
    taken = new_node(scene, ("read", len(scene.events))) if name in READING else None
    scene.events.append((hand, index, name, cell))
    scene.touches.append(touch)
    scene.taken.append(taken)
    scene.given.append(given_node(scene, touch, variables, taken))
    scene.wanted.append(variables[touch[1]] if name == "await" else None)


def add_hand(scene, hand, actions):
    """Add the events and branches of a hand; return the list of the last nodes of its variables."""
    variables = [0] * 6
    for index, action in enumerate(actions):
        name = action[0]
        if name in TOUCHES:
            add_touch(scene, hand, index, action, variables)
        if name in SETTING:
            variables[action[1]] = scene.taken[-1]
        elif name == "branch":
            scene.branches.append((hand, index, variables[action[1]], action[2]))
        elif name == "set":
            variables[action[1]] = new_node(scene, ("word", action[2]))
        elif name in SUMS:
            one, other = reads(action)
            variables[action[1]] = sum_node(scene, action, variables[one], variables[other])
    return variables


def preceding_order(events):
    """Return the order in which an event is before the later ones of its hand."""
    return [
        sum([1 << later for later in range(at + 1, len(events)) if events[later][0] == event[0]])
        for at, event in enumerate(events)
    ]
