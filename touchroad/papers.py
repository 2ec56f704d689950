"""Papers against ends."""

from touchroad.choices import run_of_choice
from touchroad.errors import InvalidEnd, InvalidPaper
from touchroad.events import sketch_of
from touchroad.papersearch import choice_or_paper
from touchroad.paperwalk import size_of, takes
from touchroad.searches import is_end
from touchroad.values import rebuilt


def sketch_to(book, memory, end):
    """Return the sketch of a short book; raise InvalidBook, NotShort, InvalidMemory or InvalidEnd."""
    sketch = sketch_of(book, memory)
    if not is_end(book, memory, end):
        raise InvalidEnd(rebuilt(end))
    return sketch


def comes(book, memory, end):
    """Return ("run", run) with a run that leads to an end, or ("paper", paper) with a paper against it."""
    sketch = sketch_to(book, memory, end)
    kind, found = choice_or_paper(sketch, end)
    return ("run", run_of_choice(sketch, book, found)) if kind == "choice" else (kind, found)


def paper_takes(book, memory, end, value):
    """Return whether any object is a paper against an end."""
    sketch = sketch_to(book, memory, end)
    return takes(sketch, end, value, {}, [0] * len(sketch.events))


def paper_size(paper):
    """Return the number of rings, words and cells in a paper."""
    size = size_of(paper)
    if size == 0:
        raise InvalidPaper(rebuilt(paper))
    return size
