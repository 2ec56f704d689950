"""What the viewing machine does, for programs and memories that have been checked.

A stand is (hands, cells); a hand is (path, done, variables, view); a cell is a tuple of versions
(word, view, updated). A script of the program tells the next actions.
"""

from touchroad.scripts import next_action
from touchroad.statements import (
    READING,
    TOUCHES,
    WRITING,
    is_giving,
    is_taking,
    touched_cell,
    words_after,
    written_word,
)
from touchroad.values import is_between, is_integer, replaced

ZEROS = (0, 0, 0, 0, 0, 0)


def first_view_stand(program, memory):
    """Return the first stand."""
    zeros = (0,) * (len(memory) + 1)
    hands = tuple([((), 0, ZEROS, zeros) for _ in program])
    return hands, tuple([((word, zeros, False),) for word in memory + (0,)])


def action_at(script, stand, hand):
    """Return the next action of a hand, None if it has none."""
    path, done, words, _ = stand[0][hand]
    return next_action(script, hand, path, done, words)


def is_view_ended(script, stand):
    """Return whether a stand has ended."""
    return all([action_at(script, stand, hand) is None for hand in range(len(stand[0]))])


def view_end(stand):
    """Return the program end of a stand that has ended."""
    return tuple([hand[2] for hand in stand[0]]), tuple([versions[-1][0] for versions in stand[1][:-1]])


def merged(view, other):
    """Return a view with another one merged into it."""
    return tuple([max(one, two) for one, two in zip(view, other)])


def can_touch(stand, hand, touch, index):
    """Return whether a hand can do its next touch at the version with an index."""
    _, _, words, view = stand[0][hand]
    cell = touched_cell(touch, words, len(stand[1]) - 1)
    if not view[cell] <= index < len(stand[1][cell]):
        return False
    word, _, updated = stand[1][cell][index]
    if touch[0] == "await" and word != words[touch[1]]:
        return False
    return touch[0] not in WRITING or not updated


def let_view_steps(script, stand):
    """Return the ascending list of the steps that are let."""
    steps = []
    for hand in range(len(stand[0])):
        action = action_at(script, stand, hand)
        if action is not None and action[0] not in TOUCHES:
            steps.append(("do", hand))
        elif action is not None:
            cell = touched_cell(action, stand[0][hand][2], len(stand[1]) - 1)
            steps.extend([
                ("touch", hand, index)
                for index in range(len(stand[1][cell]))
                if can_touch(stand, hand, action, index)
            ])
    return sorted(steps)


def is_view_let(script, stand, step):
    """Return whether any object is a step that is let."""
    if not isinstance(step, tuple) or not 2 <= len(step) <= 3 or not isinstance(step[0], str):
        return False
    if not is_between(step[1], 0, len(stand[0]) - 1):
        return False
    action = action_at(script, stand, step[1])
    if action is None:
        return False
    if action[0] not in TOUCHES:
        return len(step) == 2 and step[0] == "do"
    if len(step) != 3 or step[0] != "touch" or not is_integer(step[2]):
        return False
    return can_touch(stand, step[1], action, step[2])


def after_own_action(stand, hand, action):
    """Return the stand after an action that is no touch."""
    path, done, words, view = stand[0][hand]
    if action[0] == "branch":
        path = path + (action[2],)
    return replaced(stand[0], hand, (path, done + 1, words_after(action, words, 0), view)), stand[1]


def grown(view, cell, index):
    """Return a view in which an index of a cell that is greater than another one grows by 1."""
    return replaced(view, cell, view[cell] + 1) if view[cell] > index else view


def with_room(stand, cell, index):
    """Return the stand with all views as they are when a version is inserted behind the one with an index."""
    hands = tuple([(path, done, words, grown(view, cell, index)) for path, done, words, view in stand[0]])
    cells = tuple([
        tuple([(word, grown(view, cell, index), updated) for word, view, updated in versions])
        for versions in stand[1]
    ])
    return hands, cells


def after_write(stand, hand, touch, cell, index):
    """Return the stand after a touch wrote a new version behind the one with an index."""
    hands, cells = with_room(stand, cell, index)
    path, done, words, view = hands[hand]
    old, old_view, _ = cells[cell][index]
    reads = touch[0] in READING
    view = replaced(view, cell, index + 1)
    new_view = replaced((0,) * len(view), cell, index + 1)
    if reads:
        new_view = merged(new_view, old_view)
    if is_giving(touch):
        new_view = merged(new_view, view)
    new = (written_word(touch, words, old), new_view, False)
    versions = cells[cell][:index] + ((old, old_view, reads), new) + cells[cell][index + 1:]
    return replaced(hands, hand, (path, done, words, view)), replaced(cells, cell, versions)


def after_touch(stand, hand, touch, index):
    """Return the stand after a touch at the version with an index."""
    path, done, words, view = stand[0][hand]
    cell = touched_cell(touch, words, len(stand[1]) - 1)
    word, version_view, _ = stand[1][cell][index]
    if touch[0] in READING:
        view = replaced(view, cell, index)
        if is_taking(touch):
            view = merged(view, version_view)
    stand = replaced(stand[0], hand, (path, done, words, view)), stand[1]
    if touch[0] in WRITING:
        stand = after_write(stand, hand, touch, cell, index)
    after = (path, done + 1, words_after(touch, words, word), stand[0][hand][3])
    return replaced(stand[0], hand, after), stand[1]


def after_view_step(script, stand, step):
    """Return the stand after a step that is let."""
    action = action_at(script, stand, step[1])
    if step[0] == "do":
        return after_own_action(stand, step[1], action)
    return after_touch(stand, step[1], action, step[2])


def view_moves(script, stand):
    """Return the moves of the viewing machine, as searches.py describes them."""
    return [(step, after_view_step(script, stand, step)) for step in let_view_steps(script, stand)]
