"""Certificates against program ends, and their checker."""

from touchroad.behaviours import check_program_end, check_short_and_memory
from touchroad.errors import InvalidCertificate
from touchroad.scenes import Scene
from touchroad.scripts import all_paths
from touchroad.treesearch import choice_or_tree
from touchroad.treewalk import size_of_certificate, takes_tree
from touchroad.values import is_tuple_of, rebuilt


def decide(program, memory, end):
    """Return ("behaviour", behaviour) with a consistent one that has an end, or ("certificate", certificate)."""
    check_short_and_memory(program, memory)
    check_program_end(program, memory, end)
    parts = []
    for paths in all_paths(program):
        kind, found = choice_or_tree(Scene(program, memory, paths), end)
        if kind == "choice":
            return ("behaviour", (paths,) + found)
        parts.append((paths, found))
    return ("certificate", ("paths", tuple(parts)))


def takes_part(program, memory, end, paths, part):
    """Return whether any object is (paths, tree) with a tree for these paths against an end."""
    if not is_tuple_of(part, 2) or not is_same_paths(part[0], paths):
        return False
    scene = Scene(program, memory, paths)
    return takes_tree(scene, end, part[1], {}, [0] * len(scene.events))


def is_same_paths(value, paths):
    """Return whether any object is these paths."""
    if not is_tuple_of(value, len(paths)):
        return False
    if not all([is_tuple_of(path, len(own)) for path, own in zip(value, paths)]):
        return False
    return all([isinstance(outcome, bool) for path in value for outcome in path]) and value == paths


def certifies(program, memory, end, value):
    """Return whether any object is a certificate against an end."""
    check_short_and_memory(program, memory)
    check_program_end(program, memory, end)
    if not is_tuple_of(value, 2) or not isinstance(value[0], str) or value[0] != "paths":
        return False
    every = all_paths(program)
    if not is_tuple_of(value[1], len(every)):
        return False
    return all([takes_part(program, memory, end, paths, part) for paths, part in zip(every, value[1])])


def certificate_size(value):
    """Return the number of trees in a certificate that are neither read nor first."""
    size = size_of_certificate(value)
    if size == 0:
        raise InvalidCertificate(rebuilt(value))
    return size
