"""Whether any object is a run, for a book and a memory that have been checked."""

from touchroad.stands import after_step, after_turn, end_of_stand, first_stand, is_ended, is_let, is_turn


def stand_after(book, memory, steps):
    """Return the plain stand after any objects as steps, None if one of them is not let."""
    stand = first_stand(book, memory)
    for step in steps:
        if not is_let(book, stand, step):
            return None
        stand = after_step(book, stand, step)
    return stand


def stand_after_turns(book, memory, cores):
    """Return the stand of the one-row machine after any objects as cores, None if one of them is not let."""
    stand = first_stand(book, memory)
    for core in cores:
        if not is_turn(book, stand, core):
            return None
        stand = after_turn(book, stand, core)
    return stand


def is_run(book, memory, value):
    """Return whether any object is a run of the plain machine."""
    if not isinstance(value, list):
        return False
    stand = stand_after(book, memory, value)
    return stand is not None and is_ended(book, stand)


def leads_to(book, memory, end, value):
    """Return whether any object is a run of the plain machine that leads to an end."""
    return is_run(book, memory, value) and end_of_stand(stand_after(book, memory, value)) == end


def leads_in_one_row(book, memory, end, value):
    """Return whether any object is a run of the one-row machine that leads to an end."""
    if not isinstance(value, list):
        return False
    stand = stand_after_turns(book, memory, value)
    return stand is not None and is_ended(book, stand) and end_of_stand(stand) == end
