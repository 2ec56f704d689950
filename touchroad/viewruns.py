"""Runs of the viewing machine and their behaviours, for programs and memories that have been checked."""

from touchroad.breakings import all_events
from touchroad.choices import picks_of
from touchroad.relations import step_order
from touchroad.rings import unwound
from touchroad.runs import stand_by
from touchroad.scripts import Script, walk_of
from touchroad.searches import reached_from, way_to
from touchroad.statements import READING, TOUCHES, WRITING, touched_cell
from touchroad.views import (
    action_at,
    after_view_step,
    first_view_stand,
    is_view_ended,
    is_view_let,
    view_end,
    view_moves,
)


def view_end_of(program, memory, value):
    """Return the program end of any object that is a run, None if it is none."""
    if not isinstance(value, list):
        return None
    script = Script(program)
    stand = stand_by(script, first_view_stand(program, memory), value, is_view_let, after_view_step)
    return view_end(stand) if stand is not None and is_view_ended(script, stand) else None


def all_view_ends(program, memory):
    """Return the ascending list of the program ends of all runs."""
    script = Script(program)
    found = {}
    for stand in reached_from(script, first_view_stand(program, memory), view_moves):
        if is_view_ended(script, stand):
            found[view_end(stand)] = True
    return sorted(found)


def view_run_with(program, memory, end):
    """Return a run with a program end, None if there is none."""
    script = Script(program)
    before = reached_from(script, first_view_stand(program, memory), view_moves)
    for stand in before:
        if is_view_ended(script, stand) and view_end(stand) == end:
            return way_to(before, stand)
    return None


def behaviour_of_steps(program, memory, run):
    """Return the behaviour of a run.

    An event is first named (hand, index of its action), and numbered when all are known. The first version
    of a cell is named None.
    """
    script = Script(program)
    stand = first_view_stand(program, memory)
    versions = [[None] for _ in range(len(memory) + 1)]
    names = []
    sources = {}
    for step in run:
        hand = step[1]
        action = action_at(script, stand, hand)
        if action[0] in TOUCHES:
            _, done, words, _ = stand[0][hand]
            cell = touched_cell(action, words, len(memory))
            names.append((hand, done))
            if action[0] in READING:
                sources[hand, done] = versions[cell][step[2]]
            if action[0] in WRITING:
                versions[cell].insert(step[2] + 1, (hand, done))
        stand = after_view_step(script, stand, step)
    numbers = {name: event for event, name in enumerate(sorted(names))}
    numbers[None] = -1
    reads = tuple([(numbers[name], numbers[sources[name]]) for name in sorted(sources)])
    orders = tuple([tuple([numbers[name] for name in order[1:]]) for order in versions])
    return tuple([hand[0] for hand in stand[0]]), reads, orders


def index_behind(order, versions, write):
    """Return the index of the version of a cell behind which a write belongs that reads nothing.

    order has all writes of the cell. versions has the name of the first word, and those that have been done.
    """
    earlier = order[:order.index(write)]
    return len([version for version in versions if version in earlier])


def version_of(scene, picked, orders, versions, event):
    """Return the index of the version that an event reads, or behind which it writes."""
    cell = scene.events[event][3]
    if scene.taken[event] is not None:
        return versions[cell].index(picked[event])
    return index_behind(orders[cell], versions[cell], event)


def run_of_behaviour(program, scene, choice):
    """Return a run whose behaviour is a consistent one, with the paths of a scene and these reads and orders.

    Events are done behind their sources, and each write is put where its order says.
    """
    picked, _ = picks_of(scene, choice)
    events, _ = unwound(step_order(scene, picked), all_events(scene))
    versions = [[-1] for _ in scene.memory]
    done = [0] * len(program)
    steps = []
    for event in reversed(events):
        hand, index, _, cell = scene.events[event]
        at = version_of(scene, picked, choice[1], versions, event)
        steps.extend([("do", hand)] * (index - done[hand]))
        steps.append(("touch", hand, at))
        done[hand] = index + 1
        if scene.given[event] is not None:
            versions[cell].insert(at + 1, event)
    for hand, statements in enumerate(program):
        actions = walk_of(statements, scene.paths[hand]).actions
        steps.extend([("do", hand)] * (len(actions) - done[hand]))
    return steps
