"""Faults of distinct histories of queues and registers, for histories that have been checked.

Calls are given by their indexes.
"""

from touchroad.objects import is_ahead
from touchroad.values import is_between, is_integer, is_one_of


def put_words(history):
    """Return the list of the words that are put."""
    return [call[1][1] for call in history if call[1][0] == "put"]


def is_distinct(kind, history):
    """Return whether a history of a queue or of a register is distinct."""
    words = put_words(history)
    return len(set(words)) == len(words) and (kind == "queue" or 0 not in words)


class WordUse:
    """What a history does with words.

    puts has the call that puts each word, and answers the list of the calls that answer it.
    """

    def __init__(self, history):
        self.history = history
        self.puts = {}
        self.answers = {}
        for index, call in enumerate(history):
            if call[1][0] == "put":
                self.puts[call[1][1]] = index
            elif call[2] is not None:
                self.answers.setdefault(call[2], []).append(index)


def is_call_before(use, one, other):
    """Return whether the call with an index is ahead of the one with another index."""
    return is_ahead(use.history[one], use.history[other])


def is_put(use, index):
    """Return whether a call puts a word."""
    return use.history[index][1][0] == "put"


def removers(use, put):
    """Return the list of the calls that answer the word of a put."""
    return use.answers.get(use.history[put][1][1], [])


def is_fresh(use, index):
    """Return whether a call answers a word that no call puts, or is ahead of the call that puts it."""
    word = use.history[index][2]
    if word is None:
        return False
    return word not in use.puts or is_call_before(use, index, use.puts[word])


def is_twice(use, one, other):
    """Return whether two calls, the first one less, answer the same word."""
    word = use.history[one][2]
    return one < other and word is not None and use.history[other][2] == word


def is_overtaken(use, one, other):
    """Return whether a put is ahead of another put whose word was removed before that of the first in any case."""
    if not is_put(use, one) or not is_put(use, other) or not is_call_before(use, one, other):
        return False
    early = removers(use, other)
    if len(early) == 0:
        return False
    return all([
        any([is_call_before(use, take, late) for take in early])
        for late in removers(use, one)
    ])


def is_before_removers(use, index, put):
    """Return whether a call is ahead of each call that removes the word of a put."""
    return all([is_call_before(use, index, take) for take in removers(use, put)])


def is_linked(use, put, following):
    """Return whether a word is removed, but behind another put in any case."""
    return len(removers(use, put)) > 0 and is_before_removers(use, following, put)


def is_empty_take(use, index):
    """Return whether a call is a take that answers None."""
    return not is_put(use, index) and use.history[index][2] is None


def puts_through(use, take):
    """Return puts of words of which one was there all the time around a take, None if there are none."""
    puts = [put for put in range(len(use.history)) if is_put(use, put)]
    ways = [(put,) for put in puts if is_call_before(use, put, take)]
    passed = {way[0]: True for way in ways}
    while len(ways) > 0:
        longer = []
        for way in ways:
            if is_before_removers(use, take, way[-1]):
                return way
            for put in puts:
                if put not in passed and is_linked(use, way[-1], put):
                    passed[put] = True
                    longer.append(way + (put,))
        ways = longer
    return None


def is_empty_fault(use, take, puts):
    """Return whether the words of puts show that a take that answers None did not find the queue empty."""
    if not is_empty_take(use, take) or not all([is_put(use, put) for put in puts]):
        return False
    if not is_call_before(use, puts[0], take) or not is_before_removers(use, take, puts[-1]):
        return False
    return all([is_linked(use, one, other) for one, other in zip(puts, puts[1:])])


def fault_of_queue(history):
    """Return a fault of a history of a queue, None if there is none."""
    use = WordUse(history)
    calls = range(len(history))
    found = [("fresh", call) for call in calls if is_fresh(use, call)]
    found.extend([("twice", one, other) for one in calls for other in calls if is_twice(use, one, other)])
    found.extend([("overtaken", one, other) for one in calls for other in calls if is_overtaken(use, one, other)])
    if len(found) > 0:
        return found[0]
    for take in calls:
        puts = puts_through(use, take) if is_empty_take(use, take) else None
        if puts is not None:
            return ("empty", take, puts)
    return None


def shows_fault_of_queue(history, value):
    """Return whether any object is a fault of a history of a queue."""
    if not isinstance(value, tuple) or not 2 <= len(value) <= 3:
        return False
    last = len(history) - 1
    if not is_one_of(value[0], ("fresh", "twice", "overtaken", "empty")) or not is_between(value[1], 0, last):
        return False
    use = WordUse(history)
    if value[0] == "fresh":
        return len(value) == 2 and is_fresh(use, value[1])
    if len(value) == 2:
        return False
    if value[0] == "empty":
        puts = value[2]
        if not isinstance(puts, tuple) or len(puts) == 0 or not all([is_between(put, 0, last) for put in puts]):
            return False
        return is_empty_fault(use, value[1], puts)
    if not is_between(value[2], 0, last):
        return False
    return is_twice(use, value[1], value[2]) if value[0] == "twice" else is_overtaken(use, value[1], value[2])


def zone_of(use, word):
    """Return (low, high) of 0 or of a word that is put in a history of a register."""
    gets = [use.history[index] for index in use.answers.get(word, [])]
    if word == 0:
        return -1, max([-1] + [call[3] for call in gets])
    calls = gets + [use.history[use.puts[word]]]
    return min([call[4] for call in calls]), max([call[3] for call in calls])


def zones_of(use):
    """Return a dict with (low, high) of 0 and of each word that is put in a history of a register."""
    return {word: zone_of(use, word) for word in [0] + list(use.puts)}


def are_crossing(zones, one, other):
    """Return whether two words, the first one less, have zones that cross."""
    return one < other and zones[one][0] < zones[other][1] and zones[other][0] < zones[one][1]


def is_fresh_get(use, index):
    """Return whether a get answers a word other than 0 that it cannot have."""
    return use.history[index][2] != 0 and is_fresh(use, index)


def fault_of_register(history):
    """Return a fault of a history of a register, None if there is none."""
    use = WordUse(history)
    zones = zones_of(use)
    found = [("fresh", call) for call in range(len(history)) if is_fresh_get(use, call)]
    found.extend([("zones", one, other) for one in zones for other in zones if are_crossing(zones, one, other)])
    return found[0] if len(found) > 0 else None


def shows_fault_of_register(history, value):
    """Return whether any object is a fault of a history of a register."""
    if not isinstance(value, tuple) or len(value) == 0 or not all([is_integer(item) for item in value[1:]]):
        return False
    use = WordUse(history)
    if is_one_of(value[0], ("fresh",)):
        return len(value) == 2 and is_between(value[1], 0, len(history) - 1) and is_fresh_get(use, value[1])
    if not is_one_of(value[0], ("zones",)) or len(value) != 3:
        return False
    zones = zones_of(use)
    return value[1] in zones and value[2] in zones and are_crossing(zones, value[1], value[2])
