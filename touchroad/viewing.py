"""The viewing machine."""

from touchroad.behaviours import check_behaviour, check_program_end, check_short_and_memory
from touchroad.breakings import breaking_of
from touchroad.checks import check_memory
from touchroad.choices import picks_of
from touchroad.errors import InvalidBehaviour, InvalidRun
from touchroad.runs import stand_by_let
from touchroad.scripts import Script
from touchroad.tongue import check_program
from touchroad.values import rebuilt
from touchroad.viewruns import all_view_ends, behaviour_of_steps, run_of_behaviour, view_end_of, view_run_with
from touchroad.views import after_view_step, first_view_stand, is_view_ended, is_view_let, let_view_steps


def viewing_first(program, memory):
    """Return the first stand."""
    check_program(program)
    check_memory(memory)
    return first_view_stand(program, memory)


def viewing_steps(program, stand):
    """Return the ascending list of the steps that are let."""
    check_program(program)
    return let_view_steps(Script(program), stand)


def viewing_after(program, stand, step):
    """Return the stand after a step."""
    check_program(program)
    return stand_by_let(Script(program), stand, [step], is_view_let, after_view_step)


def viewing_run(program, memory, steps):
    """Return the stand after a list of steps from the first stand on."""
    stand = viewing_first(program, memory)
    return stand_by_let(Script(program), stand, steps, is_view_let, after_view_step)


def viewing_ended(program, stand):
    """Return whether a stand has ended."""
    check_program(program)
    return is_view_ended(Script(program), stand)


def viewing_ends(program, memory):
    """Return the ascending list of the program ends of all runs."""
    check_program(program)
    check_memory(memory)
    return all_view_ends(program, memory)


def check_end_of_program(program, memory, end):
    """Raise InvalidProgram, InvalidMemory or InvalidEnd."""
    check_program(program)
    check_memory(memory)
    check_program_end(program, memory, end)


def viewing_run_to(program, memory, end):
    """Return a run with a program end, None if there is none."""
    check_end_of_program(program, memory, end)
    return view_run_with(program, memory, end)


def viewing_run_leads(program, memory, end, value):
    """Return whether any object is a run with a program end."""
    check_end_of_program(program, memory, end)
    return view_end_of(program, memory, value) == end


def viewed_behaviour(program, memory, run):
    """Return the behaviour of a run."""
    check_short_and_memory(program, memory)
    if view_end_of(program, memory, run) is None:
        raise InvalidRun(rebuilt(run))
    return behaviour_of_steps(program, memory, run)


def viewing_run_of(program, memory, behaviour):
    """Return a run whose behaviour is a consistent one."""
    scene = check_behaviour(program, memory, behaviour)
    picked, after = picks_of(scene, behaviour[1:])
    if breaking_of(scene, picked, after) is not None:
        raise InvalidBehaviour(rebuilt(behaviour))
    return run_of_behaviour(program, scene, behaviour[1:])
