"""The ends of interleaved programs, for programs that have been checked.

A state is (hands, memory); a hand is (path, done, words): its outcomes, how many actions it has done, its words.
"""

from touchroad.scripts import Script, next_action
from touchroad.searches import reached_from
from touchroad.statements import READING, TOUCHES, WRITING, touched_cell, words_after, written_word
from touchroad.values import replaced

ZEROS = (0, 0, 0, 0, 0, 0)


def path_after(path, action):
    """Return the outcomes of a hand after an action."""
    return path + (action[2],) if action[0] == "branch" else path


def after_action(state, hand, action):
    """Return the state after an action of a hand, None if it has to wait."""
    hands, memory = state
    path, done, words = hands[hand]
    old = 0
    if action[0] in TOUCHES and action[0] != "whole":
        cell = touched_cell(action, words, len(memory))
        old = memory[cell] if action[0] in READING else 0
        if action[0] == "await" and old != words[action[1]]:
            return None
        if action[0] in WRITING:
            memory = replaced(memory, cell, written_word(action, words, old))
    after = (path_after(path, action), done + 1, words_after(action, words, old))
    return replaced(hands, hand, after), memory


def interleaved_moves(script, state):
    """Return the list of the tuples (hand, state after its next action)."""
    moves = []
    for hand, (path, done, words) in enumerate(state[0]):
        action = next_action(script, hand, path, done, words)
        following = None if action is None else after_action(state, hand, action)
        if following is not None:
            moves.append((hand, following))
    return moves


def has_ended(script, state):
    """Return whether no hand has a next action."""
    return all([
        next_action(script, hand, path, done, words) is None
        for hand, (path, done, words) in enumerate(state[0])
    ])


def ends_interleaved(program, memory):
    """Return the ascending list of the program ends."""
    script = Script(program)
    start = (tuple([((), 0, ZEROS) for _ in program]), memory)
    found = {}
    for state in reached_from(script, start, interleaved_moves):
        if has_ended(script, state):
            found[tuple([words for _, _, words in state[0]]), state[1]] = True
    return sorted(found)
