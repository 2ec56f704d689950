"""Behaviours of short programs and the four rules."""

from touchroad.breakings import breaking_of, shows_breaking
from touchroad.checks import check_memory
from touchroad.choices import is_choice, picks_of
from touchroad.errors import InvalidBehaviour, InvalidEnd, NotShort
from touchroad.relations import closed, direct_order
from touchroad.rings import pairs_of
from touchroad.scenes import Scene
from touchroad.scripts import all_paths, are_paths
from touchroad.statements import is_program_end
from touchroad.tongue import check_paths, is_short
from touchroad.treesearch import choice_or_tree, ends_on_paths, program_end_of
from touchroad.values import is_tuple_of, rebuilt


def check_short_program(program):
    """Raise InvalidProgram or NotShort."""
    if not is_short(program):
        raise NotShort(rebuilt(program))


def check_short_and_memory(program, memory):
    """Raise InvalidProgram, NotShort or InvalidMemory."""
    check_short_program(program)
    check_memory(memory)


def check_program_end(program, memory, end):
    """Raise InvalidEnd for any object that is no program end."""
    if not is_program_end(program, memory, end):
        raise InvalidEnd(rebuilt(end))


def scene_for(program, memory, behaviour):
    """Return the scene of the paths of any object that is a behaviour, None if it is none."""
    if not is_tuple_of(behaviour, 3) or not are_paths(program, behaviour[0]):
        return None
    scene = Scene(program, memory, behaviour[0])
    return scene if is_choice(scene, behaviour[1:]) else None


def check_behaviour(program, memory, behaviour):
    """Raise InvalidProgram, NotShort, InvalidMemory or InvalidBehaviour; return the scene of the paths."""
    check_short_and_memory(program, memory)
    scene = scene_for(program, memory, behaviour)
    if scene is None:
        raise InvalidBehaviour(rebuilt(behaviour))
    return scene


def events_of(program, memory, paths):
    """Return the list of the events of paths."""
    check_short_and_memory(program, memory)
    check_paths(program, paths)
    return Scene(program, memory, paths).events


def happens_before(program, memory, behaviour):
    """Return the ascending list of the pairs of which one event happens before the other."""
    scene = check_behaviour(program, memory, behaviour)
    return pairs_of(closed(direct_order(scene, picks_of(scene, behaviour[1:])[0])))


def broken(program, memory, behaviour):
    """Return what breaks the first rule that is broken, None if the behaviour is consistent."""
    scene = check_behaviour(program, memory, behaviour)
    picked, after = picks_of(scene, behaviour[1:])
    return breaking_of(scene, picked, after)


def is_broken(program, memory, behaviour, value):
    """Return whether any object says what breaks a rule, and it is so."""
    scene = check_behaviour(program, memory, behaviour)
    picked, after = picks_of(scene, behaviour[1:])
    return shows_breaking(scene, picked, after, value)


def behaviour_end(program, memory, behaviour):
    """Return the program end of a consistent behaviour."""
    scene = check_behaviour(program, memory, behaviour)
    picked, after = picks_of(scene, behaviour[1:])
    if breaking_of(scene, picked, after) is not None:
        raise InvalidBehaviour(rebuilt(behaviour))
    return program_end_of(scene, behaviour[1:])


def behaviour_ends(program, memory):
    """Return the ascending list of the program ends of all consistent behaviours."""
    check_short_and_memory(program, memory)
    found = {}
    for paths in all_paths(program):
        for end in ends_on_paths(Scene(program, memory, paths)):
            found[end] = True
    return sorted(found)


def behaviour_to(program, memory, end):
    """Return a consistent behaviour that has an end, None if there is none."""
    check_short_and_memory(program, memory)
    check_program_end(program, memory, end)
    for paths in all_paths(program):
        kind, found = choice_or_tree(Scene(program, memory, paths), end)
        if kind == "choice":
            return (paths,) + found
    return None
