"""The checker of trees of certificates and their size.

The checker walks a tree with the picks that hold, picked and after, as rings.py describes them.
"""

from touchroad.breakings import is_ring_in, shows_await, shows_back, shows_branch, shows_round
from touchroad.decisions import are_counts, are_events, size_with, takes_first, takes_read
from touchroad.paperwalk import takes_cell, takes_word
from touchroad.relations import is_updating, under_order
from touchroad.sketches import known_words
from touchroad.values import is_tuple_of


def takes_between(scene, tree, picked, after):
    """Return whether a tuple is ("between", event, event)."""
    if not is_tuple_of(tree, 3) or not are_events(scene, tree[1:]):
        return False
    event, write = tree[1:]
    if not is_updating(scene, event) or event not in picked or not after[write] >> event & 1:
        return False
    return picked[event] == -1 or after[picked[event]] >> write & 1 == 1


def takes_leaf(scene, end, tree, picked, after):
    """Return whether a tuple that begins with a string is a tree without other trees."""
    name = tree[0]
    if name == "round":
        return shows_round(scene, picked, tree)
    if name == "circle":
        return len(tree) == 2 and is_ring_in(scene, under_order(scene, picked, after), tree[1])
    if name == "back":
        return shows_back(scene, picked, after, tree)
    if name == "between":
        return takes_between(scene, tree, picked, after)
    if name == "branch":
        return shows_branch(scene, known_words(scene, picked), tree)
    if name == "await":
        return shows_await(scene, known_words(scene, picked), tree)
    if name == "word":
        return takes_word(scene, end, tree, picked)
    return name == "cell" and takes_cell(scene, end, tree, picked, after)


def takes_tree(scene, end, tree, picked, after):
    """Return whether any object is a tree against an end, where some picks hold."""
    if not isinstance(tree, tuple) or len(tree) == 0 or not isinstance(tree[0], str):
        return False
    if tree[0] == "read":
        return takes_read(takes_tree, scene, end, tree, picked, after)
    if tree[0] == "first":
        return takes_first(takes_tree, scene, end, tree, picked, after)
    return takes_leaf(scene, end, tree, picked, after)


def size_of_tree_leaf(tree):
    """Return 1, 0 if a tuple that begins with a string does not have the form of a tree without other trees."""
    name, count = tree[0], len(tree)
    if name in ("round", "circle") and count == 2:
        return 1 if are_counts(tree[1], 2) and len(set(tree[1])) == len(tree[1]) else 0
    if name == "back" and count == 3:
        return 1 if are_counts(tree[1], 2) and are_counts(tree[2], 2) else 0
    if name in ("between", "branch", "word") and count == 3 or name in ("await", "cell") and count == 2:
        return 1 if are_counts(tree[1:], 1) else 0
    return 0


def are_shapes_of_paths(value):
    """Return whether any object is a tuple of one to four tuples of booleans."""
    if not isinstance(value, tuple) or not 1 <= len(value) <= 4:
        return False
    return all([isinstance(path, tuple) and all([isinstance(item, bool) for item in path]) for path in value])


def size_of_certificate(value):
    """Return the number of trees without other trees in any object, 0 if it does not have the form."""
    if not is_tuple_of(value, 2) or not isinstance(value[0], str) or value[0] != "paths":
        return 0
    parts = value[1]
    if not isinstance(parts, tuple) or len(parts) == 0 or not all([is_tuple_of(part, 2) for part in parts]):
        return 0
    if not all([are_shapes_of_paths(part[0]) for part in parts]):
        return 0
    if not all([one[0] < other[0] for one, other in zip(parts, parts[1:])]):
        return 0
    sizes = [size_with(size_of_tree_leaf, part[1]) for part in parts]
    return 0 if 0 in sizes else sum(sizes)
