"""The search for a choice with an end, or for a paper against the end.

A decision is ("read", event) or ("first", event, event). A branch is (label, picked, after): what the
decision says and the picks that hold then. A branch is closed if a ring, a word or a cell is against it.
"""

from touchroad.choices import readers_of, sources_for
from touchroad.paperwalk import takes, with_first, with_source, wrong_cell, wrong_word
from touchroad.rings import named_ring
from touchroad.sketches import known_words


def accesses_of(sketch):
    """Return the set of the events that are no fences.

    A ring through a fence goes on without it, since the fence is kept with all events of its core.
    """
    return sum([1 << event for event, (_, _, name, _) in enumerate(sketch.events) if name != "fence"])


def closing(sketch, end, picked, after):
    """Return a ring, word or cell that is against the end under these picks, None if there is none."""
    found = named_ring(sketch, picked, after, accesses_of(sketch))
    if found is not None:
        return ("ring", found[0], found[1])
    words = known_words(sketch, picked)
    for core in range(len(sketch.last)):
        for number in range(8):
            if wrong_word(sketch, end, words, core, number):
                return ("word", core, number)
    for cell in range(len(sketch.memory)):
        if wrong_cell(sketch, end, words, after, cell):
            return ("cell", cell)
    return None


def open_decisions(sketch, picked, after):
    """Return the list of the decisions that the picks leave open."""
    decisions = [("read", event) for event in readers_of(sketch) if event not in picked]
    for writers in sketch.writers:
        decisions.extend([
            ("first", one, other)
            for one in writers
            for other in writers
            if one < other and not after[one] >> other & 1 and not after[other] >> one & 1
        ])
    return decisions


def branches_of(sketch, decision, picked, after):
    """Return the list of the branches of a decision."""
    if decision[0] == "read":
        event = decision[1]
        sources = sources_for(sketch, event)
        return [(source, with_source(picked, event, source), after) for source in sources]
    _, one, other = decision
    return [(one, picked, with_first(after, one, other)), (other, picked, with_first(after, other, one))]


def best_decision(sketch, end, picked, after):
    """Return (decision, branches, closings) with the fewest branches that are not closed, None if all is decided."""
    best, fewest = None, None
    for decision in open_decisions(sketch, picked, after):
        branches = branches_of(sketch, decision, picked, after)
        closings = [closing(sketch, end, picks, orders) for _, picks, orders in branches]
        left = closings.count(None)
        if fewest is None or left < fewest:
            best, fewest = (decision, branches, closings), left
        if left <= 1:
            break
    return best


def joined_paper(decision, branches, papers):
    """Return the paper of a decision with the papers of its branches."""
    if decision[0] == "first":
        return decision + tuple(papers)
    return decision + (tuple([(branch[0], paper) for branch, paper in zip(branches, papers)]),)


def decided_choice(sketch, picked, after):
    """Return the choice that picks make, when all is decided."""
    orders = []
    for writers in sketch.writers:
        # The more writes are behind a write, the earlier it is.
        order = sorted([(-sum([after[write] >> other & 1 for other in writers]), write) for write in writers])
        orders.append(tuple([write for _, write in order]))
    return tuple(sorted(picked.items())), tuple(orders)


def searched(sketch, end, picked, after):
    """Return ("choice", choice) or ("paper", paper), whichever there is under picks that are not closed."""
    best = best_decision(sketch, end, picked, after)
    if best is None:
        return ("choice", decided_choice(sketch, picked, after))
    decision, branches, papers = best
    full = []
    for branch, paper in zip(branches, papers):
        if paper is None:
            found = searched(sketch, end, branch[1], branch[2])
            if found[0] == "choice":
                return found
            paper = found[1]
            # A paper that holds without the decision makes the other branches needless.
            if takes(sketch, end, paper, picked, after):
                return found
        full.append(paper)
    return ("paper", joined_paper(decision, branches, full))


def choice_or_paper(sketch, end):
    """Return ("choice", choice) with a choice whose end it is, or ("paper", paper) with a paper against it."""
    after = [0] * len(sketch.events)
    paper = closing(sketch, end, {}, after)
    return searched(sketch, end, {}, after) if paper is None else ("paper", paper)
