"""All choices of a short book that are without a ring in one order and have one in another."""

from touchroad.choices import readers_of, sources_for
from touchroad.rings import added_order, own_behind_order, unwound


def has_ring(sketch, order):
    """Return whether an order of all events has a ring."""
    return unwound(order, (1 << len(sketch.events)) - 1)[1] != 0


def is_free(sketch, kept, picked, after):
    """Return whether picks are without a ring, with a kept order in behind."""
    if has_ring(sketch, added_order(sketch, kept, picked, after, False)):
        return False
    return not has_ring(sketch, own_behind_order(sketch, picked, after))


class Hunt:
    """A search for choices that are without a ring in the order weak and have one in the order strong.

    found has a tuple (choice, picked, after) for each of them, or for the first one alone.
    """

    def __init__(self, sketch, weak, strong, only_first):
        self.sketch = sketch
        self.weak = weak
        self.strong = strong
        self.only_first = only_first
        self.readers = readers_of(sketch)
        self.found = []


def is_over(hunt):
    """Return whether nothing more is looked for."""
    return hunt.only_first and len(hunt.found) > 0


def hunt_reads(hunt, picked, after, at):
    """Go through all sources of the readers from an index on, and then through all orders."""
    if is_over(hunt) or not is_free(hunt.sketch, hunt.weak, picked, after):
        return
    if at == len(hunt.readers):
        hunt_orders(hunt, picked, after, [()])
        return
    event = hunt.readers[at]
    for source in sources_for(hunt.sketch, event):
        hunt_reads(hunt, {**picked, event: source}, after, at + 1)


def hunt_orders(hunt, picked, after, orders):
    """Go through all sequences of the writes that are not in the orders of the cells so far."""
    sketch = hunt.sketch
    if len(orders[-1]) == len(sketch.writers[len(orders) - 1]):
        if len(orders) == len(sketch.memory):
            keep_if_bad(hunt, picked, after, orders)
        else:
            hunt_orders(hunt, picked, after, orders + [()])
        return
    left = [write for write in sketch.writers[len(orders) - 1] if write not in orders[-1]]
    for write in left:
        later = sum([1 << other for other in left if other != write])
        ordered = [mask | later if event == write else mask for event, mask in enumerate(after)]
        if not is_over(hunt) and is_free(sketch, hunt.weak, picked, ordered):
            hunt_orders(hunt, picked, ordered, orders[:-1] + [orders[-1] + (write,)])


def keep_if_bad(hunt, picked, after, orders):
    """Keep a choice without a ring in the weak order if it has one in the strong order."""
    if not is_free(hunt.sketch, hunt.strong, picked, after):
        choice = (tuple(sorted(picked.items())), tuple(orders))
        hunt.found.append((choice, picked, after))


def bad_choices(sketch, weak, strong, only_first):
    """Return the ascending list of all such choices, or of the first one alone, each as (choice, picked, after)."""
    hunt = Hunt(sketch, weak, strong, only_first)
    hunt_reads(hunt, {}, [0] * len(sketch.events), 0)
    return hunt.found
