"""Small helpers for values of any kind.

Objects are asked for their kind before they are compared, since an object may be equal to a valid
value without being one (True is equal to 1).
"""


def is_integer(value):
    """Return whether any object is an integer, but neither True nor False."""
    return isinstance(value, int) and not isinstance(value, bool)


def is_between(value, low, high):
    """Return whether any object is an integer from low to high."""
    return is_integer(value) and low <= value <= high


def is_word(value):
    """Return whether any object is a word."""
    return is_between(value, 0, 65535)


def is_one_of(value, texts):
    """Return whether any object is one of the strings in a tuple."""
    return isinstance(value, str) and value in texts


def is_tuple_of(value, length):
    """Return whether any object is a tuple with so many items."""
    return isinstance(value, tuple) and len(value) == length


def are_words(value, length):
    """Return whether any object is a tuple of so many words."""
    return is_tuple_of(value, length) and all([is_word(word) for word in value])


def is_ascending(value, count):
    """Return whether any object is an ascending tuple of integers from 0 to count - 1."""
    if not isinstance(value, tuple) or not all([is_between(item, 0, count - 1) for item in value]):
        return False
    return all([one < other for one, other in zip(value, value[1:])])


def rebuilt(value):
    """Return an object with all its lists and tuples built anew."""
    if isinstance(value, list):
        return [rebuilt(item) for item in value]
    if isinstance(value, tuple):
        return tuple([rebuilt(item) for item in value])
    return value


def replaced(items, index, item):
    """Return a tuple with another item at an index."""
    return items[:index] + (item,) + items[index + 1:]
