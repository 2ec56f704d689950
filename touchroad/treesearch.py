"""The search for a behaviour with an end, or for trees against it, and for all behaviours."""

from touchroad.breakings import all_events, wrong_word_in
from touchroad.choices import end_of_choice, readers_of, sources_for
from touchroad.decisions import with_source
from touchroad.decisionsearch import choice_or_refusal
from touchroad.paperwalk import wrong_cell, wrong_word
from touchroad.relations import back_in, step_order, under_order
from touchroad.rings import ring_among
from touchroad.sketches import known_words
from touchroad.treewalk import takes_tree


def rule_against(scene, picked, after):
    """Return a tree without other trees that is against all behaviours with these picks, None if there is none.

    A write between an event that updates and its source makes a circle, so no tree between is needed.
    """
    ring = ring_among(step_order(scene, picked), all_events(scene))
    if ring is not None:
        return ("round", ring)
    ring = ring_among(under_order(scene, picked, after), all_events(scene))
    if ring is not None:
        return ("circle", ring)
    back = back_in(scene, picked, after)
    if back is not None:
        return ("back",) + back
    return wrong_word_in(scene, known_words(scene, picked))


def leaf_against(scene, end, picked, after):
    """Return a tree without other trees that is against an end under these picks, None if there is none."""
    leaf = rule_against(scene, picked, after)
    if leaf is not None:
        return leaf
    words = known_words(scene, picked)
    for hand in range(len(scene.last)):
        for variable in range(6):
            if wrong_word(scene, end, words, hand, variable):
                return ("word", hand, variable)
    for cell in range(len(end[1])):
        if wrong_cell(scene, end, words, after, cell):
            return ("cell", cell)
    return None


def choice_or_tree(scene, end):
    """Return ("choice", (reads, orders)) of a consistent behaviour with an end, or ("paper", tree) with a tree."""
    return choice_or_refusal(scene, end, (leaf_against, takes_tree))


def program_end_of(scene, choice):
    """Return the program end of a consistent behaviour with these reads and orders."""
    words, memory = end_of_choice(scene, choice)
    return words, memory[:-1]


class Gathering:
    """The program ends of all consistent behaviours with the paths of a scene, as they are found."""

    def __init__(self, scene):
        self.scene = scene
        self.readers = readers_of(scene)
        self.found = {}


def gather_reads(gathering, picked, after, at):
    """Go through all sources of the readers from an index on, and then through all orders."""
    scene = gathering.scene
    if rule_against(scene, picked, after) is not None:
        return
    if at == len(gathering.readers):
        gather_orders(gathering, picked, after, [()])
        return
    event = gathering.readers[at]
    for source in sources_for(scene, event):
        gather_reads(gathering, with_source(picked, event, source), after, at + 1)


def gather_orders(gathering, picked, after, orders):
    """Go through all sequences of the writes that are not in the orders of the cells so far."""
    scene = gathering.scene
    if len(orders[-1]) == len(scene.writers[len(orders) - 1]):
        if len(orders) < len(scene.memory):
            gather_orders(gathering, picked, after, orders + [()])
        else:
            gathering.found[program_end_of(scene, (tuple(sorted(picked.items())), tuple(orders)))] = True
        return
    left = [write for write in scene.writers[len(orders) - 1] if write not in orders[-1]]
    for write in left:
        later = sum([1 << other for other in left if other != write])
        ordered = [mask | later if event == write else mask for event, mask in enumerate(after)]
        if rule_against(scene, picked, ordered) is None:
            gather_orders(gathering, picked, ordered, orders[:-1] + [orders[-1] + (write,)])


def ends_on_paths(scene):
    """Return the list of the program ends of all consistent behaviours with the paths of a scene."""
    gathering = Gathering(scene)
    gather_reads(gathering, {}, [0] * len(scene.events), 0)
    return list(gathering.found)
