"""The search for a choice that nothing is against, or for a paper or a tree that refuses all choices.

The events are those of a sketch or a scene. A decision is ("read", event) or ("first", event, event). A branch
is (label, picked, after): what the decision says and the picks that hold then. laws is (closing, takes):
closing(sketch, end, picked, after) returns a leaf that is against the end under these picks, or None, and
takes is the checker that decisions.py describes. A branch with such a leaf is closed.
"""

from touchroad.choices import readers_of, sources_for
from touchroad.decisions import with_first, with_source


def open_decisions(sketch, picked, after):
    """Return the list of the decisions that the picks leave open."""
    decisions = [("read", event) for event in readers_of(sketch) if event not in picked]
    for writers in sketch.writers:
        decisions.extend([
            ("first", one, other)
            for one in writers
            for other in writers
            if one < other and not after[one] >> other & 1 and not after[other] >> one & 1
        ])
    return decisions


def branches_of(sketch, decision, picked, after):
    """Return the list of the branches of a decision."""
    if decision[0] == "read":
        event = decision[1]
        sources = sources_for(sketch, event)
        return [(source, with_source(picked, event, source), after) for source in sources]
    _, one, other = decision
    return [(one, picked, with_first(after, one, other)), (other, picked, with_first(after, other, one))]


def best_decision(sketch, end, laws, picked, after):
    """Return (decision, branches, closings) with the fewest branches that are not closed, None if all is decided."""
    closing = laws[0]
    best, fewest = None, None
    for decision in open_decisions(sketch, picked, after):
        branches = branches_of(sketch, decision, picked, after)
        closings = [closing(sketch, end, picks, orders) for _, picks, orders in branches]
        left = closings.count(None)
        if fewest is None or left < fewest:
            best, fewest = (decision, branches, closings), left
        if left <= 1:
            break
    return best


def joined_paper(decision, branches, papers):
    """Return the paper of a decision with the papers of its branches."""
    if decision[0] == "first":
        return decision + tuple(papers)
    return decision + (tuple([(branch[0], paper) for branch, paper in zip(branches, papers)]),)


def decided_choice(sketch, picked, after):
    """Return the choice that picks make, when all is decided."""
    orders = []
    for writers in sketch.writers:
        # The more writes are behind a write, the earlier it is.
        order = sorted([(-sum([after[write] >> other & 1 for other in writers]), write) for write in writers])
        orders.append(tuple([write for _, write in order]))
    return tuple(sorted(picked.items())), tuple(orders)


def searched(sketch, end, laws, picked, after):
    """Return ("choice", choice) or ("paper", paper), whichever there is under picks that are not closed."""
    takes = laws[1]
    best = best_decision(sketch, end, laws, picked, after)
    if best is None:
        return ("choice", decided_choice(sketch, picked, after))
    decision, branches, papers = best
    full = []
    for branch, paper in zip(branches, papers):
        if paper is None:
            found = searched(sketch, end, laws, branch[1], branch[2])
            if found[0] == "choice":
                return found
            paper = found[1]
            # A paper that holds without the decision makes the other branches needless.
            if takes(sketch, end, paper, picked, after):
                return found
        full.append(paper)
    return ("paper", joined_paper(decision, branches, full))


def choice_or_refusal(sketch, end, laws):
    """Return ("choice", choice) with a choice that nothing is against, or ("paper", paper) that refuses all."""
    closing = laws[0]
    after = [0] * len(sketch.events)
    paper = closing(sketch, end, {}, after)
    return searched(sketch, end, laws, {}, after) if paper is None else ("paper", paper)
