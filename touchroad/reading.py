"""Text as values."""

from touchroad.errors import Unreadable
from touchroad.histories import check_kind
from touchroad.objects import is_history_value
from touchroad.paperwalk import size_of
from touchroad.parsing import parsed_end, parsed_history, parsed_paper, parsed_program, parsed_run, parsed_words
from touchroad.statements import is_program_value
from touchroad.texts import (
    show_end,
    show_history,
    show_memory,
    show_paper,
    show_program,
    show_program_end,
    show_run,
)
from touchroad.values import rebuilt


def check_text(text):
    """Raise Unreadable for any object that is no string."""
    if not isinstance(text, str):
        raise Unreadable(rebuilt(text))


def check_shown(text, shown):
    """Raise Unreadable for a string that is not the text of what was found in it."""
    if shown != text:
        raise Unreadable(text)


def read_memory(text):
    """Return the memory with a text."""
    check_text(text)
    memory = parsed_words(text, text)
    check_shown(text, show_memory(memory))
    return memory


def read_end(text):
    """Return the end with a text."""
    check_text(text)
    end = parsed_end(text, 8)
    check_shown(text, show_end(end))
    return end


def read_run(text):
    """Return the list of plain steps with a text."""
    check_text(text)
    run = parsed_run(text)
    check_shown(text, show_run(run))
    return run


def read_paper(text):
    """Return the paper with a text."""
    check_text(text)
    paper = parsed_paper(text)
    if size_of(paper) == 0:
        raise Unreadable(text)
    check_shown(text, show_paper(paper))
    return paper


def read_program(text):
    """Return the program with a text."""
    check_text(text)
    program = parsed_program(text)
    if not is_program_value(program):
        raise Unreadable(text)
    check_shown(text, show_program(program))
    return program


def read_program_end(text):
    """Return the program end with a text."""
    check_text(text)
    end = parsed_end(text, 6)
    check_shown(text, show_program_end(end))
    return end


def read_history(kind, text):
    """Return the history of a kind with a text."""
    check_kind(kind)
    check_text(text)
    history = parsed_history(kind, text)
    if not is_history_value(kind, history):
        raise Unreadable(text)
    check_shown(text, show_history(history))
    return history
