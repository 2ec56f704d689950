"""What the hands of a program do on their paths, for programs that have been checked."""

from touchroad.statements import SETTING, TOUCHES


class Walk:
    """What a hand does by some outcomes.

    at counts the outcomes that were used. stuck is the variable of the if for which none was left, or None.
    """

    def __init__(self, outcomes):
        self.outcomes = outcomes
        self.at = 0
        self.actions = []
        self.stuck = None


def walk_through(walk, statements):
    """Add what statements do to a walk."""
    for statement in statements:
        if walk.stuck is not None:
            return
        if statement[0] == "if" and walk.at == len(walk.outcomes):
            walk.stuck = statement[1]
        elif statement[0] == "if":
            outcome = walk.outcomes[walk.at]
            walk.at += 1
            walk.actions.append(("branch", statement[1], outcome))
            walk_through(walk, statement[2] if outcome else statement[3])
        elif statement[0] == "again":
            for _ in range(statement[1]):
                walk_through(walk, statement[2])
        else:
            walk.actions.append(statement)


def walk_of(hand, outcomes):
    """Return the walk of a hand by some outcomes."""
    walk = Walk(outcomes)
    walk_through(walk, hand)
    return walk


def is_path(hand, value):
    """Return whether any object is a path of a hand."""
    if not isinstance(value, tuple) or not all([isinstance(outcome, bool) for outcome in value]):
        return False
    walk = walk_of(hand, value)
    return walk.stuck is None and walk.at == len(value)


def are_paths(program, value):
    """Return whether any object is paths of a program."""
    if not isinstance(value, tuple) or len(value) != len(program):
        return False
    return all([is_path(hand, path) for hand, path in zip(program, value)])


def paths_through(statements):
    """Return the list of the paths of statements."""
    paths = [()]
    for statement in statements:
        if statement[0] == "if":
            following = [(False,) + path for path in paths_through(statement[3])]
            following.extend([(True,) + path for path in paths_through(statement[2])])
            paths = [path + more for path in paths for more in following]
        elif statement[0] == "again":
            following = paths_through(statement[2])
            for _ in range(statement[1]):
                paths = [path + more for path in paths for more in following]
    return paths


def count_through(statements):
    """Return the number of the paths of statements."""
    count = 1
    for statement in statements:
        if statement[0] == "if":
            count *= count_through(statement[2]) + count_through(statement[3])
        elif statement[0] == "again":
            inside = count_through(statement[2])
            for _ in range(statement[1]):
                count *= inside
    return count


def count_of_paths(program):
    """Return the number of the paths of a program, however many they are."""
    count = 1
    for hand in program:
        count *= count_through(hand)
    return count


def all_paths(program):
    """Return the ascending list of the paths of a program."""
    found = [()]
    for hand in program:
        paths = sorted(paths_through(hand))
        found = [before + (path,) for before in found for path in paths]
    return found


def read_after(action, read):
    """Return the set of the variables whose words are read after an action, None if its cell depends on such a word.

    The bit 1 << v of a set stands for the variable v.
    """
    name = action[0]
    if name in TOUCHES:
        if name != "whole" and read >> action[-3] & 1:
            return None
        return read | 1 << action[1] if name in SETTING else read
    if name != "set" and (read >> action[2] | read >> action[3]) & 1:
        return read | 1 << action[1]
    return read & ~(1 << action[1])


def reads_through(statements, reads):
    """Return the list of the sets, one or more, after statements that come after one of these sets.

    None is returned if the cell of a touch depends on a read word.
    """
    for statement in statements:
        if statement[0] == "again":
            after = reads_again(statement[1], statement[2], reads)
        elif statement[0] == "if":
            yes, no = reads_through(statement[2], reads), reads_through(statement[3], reads)
            after = None if yes is None or no is None else yes + no
        else:
            after = [read_after(statement, read) for read in reads]
        if after is None or None in after:
            return None
        reads = sorted(set(after))
    return reads


def reads_again(times, body, reads):
    """Return what reads_through returns for the statements of a body so many times."""
    for _ in range(times):
        reads = reads_through(body, reads)
        if reads is None:
            return None
    return reads


def is_short_program(program):
    """Return whether a program is short."""
    return all([reads_through(hand, [0]) is not None for hand in program])


class Script:
    """A program and the walks of its hands that were asked for, by hand and outcomes."""

    def __init__(self, program):
        self.program = program
        self.walks = {}


def next_action(script, hand, path, done, words):
    """Return the next action of a hand after so many actions, None if there is none."""
    if (hand, path) not in script.walks:
        script.walks[hand, path] = walk_of(script.program[hand], path)
    walk = script.walks[hand, path]
    if done < len(walk.actions):
        return walk.actions[done]
    return None if walk.stuck is None else ("branch", walk.stuck, words[walk.stuck] != 0)
