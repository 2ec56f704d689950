"""Programs."""

from touchroad.checks import check_memory
from touchroad.errors import InvalidPaths, InvalidProgram
from touchroad.interleaving import ends_interleaved
from touchroad.scripts import all_paths, are_paths, is_short_program, walk_of
from touchroad.statements import is_hand, is_program_value
from touchroad.values import rebuilt


def is_statement(value):
    """Return whether any object is a statement that may be the only statement of a hand."""
    return is_hand((value,))


def is_program(value):
    """Return whether any object is a program."""
    return is_program_value(value)


def check_program(program):
    """Raise InvalidProgram for any object that is no program."""
    if not is_program_value(program):
        raise InvalidProgram(rebuilt(program))


def check_paths(program, paths):
    """Raise InvalidPaths for any object that is no paths of a program."""
    if not are_paths(program, paths):
        raise InvalidPaths(rebuilt(paths))


def paths_of(program):
    """Return the ascending list of the paths of a program."""
    check_program(program)
    return all_paths(program)


def actions_of(program, paths):
    """Return a list with the list of the actions of each hand."""
    check_program(program)
    check_paths(program, paths)
    return [walk_of(hand, path).actions for hand, path in zip(program, paths)]


def is_short(program):
    """Return whether a program is short."""
    check_program(program)
    return is_short_program(program)


def interleaved_ends(program, memory):
    """Return the ascending list of the program ends of all interleavings."""
    check_program(program)
    check_memory(memory)
    return ends_interleaved(program, memory)
