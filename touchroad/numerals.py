"""Numbers as text."""

DIGITS = "0123456789"


def is_numeral(text, most):
    """Return whether a string is a number of at most so many decimal digits, without leading zeros.

    Callers turn only such a string into an integer, since Python refuses some thousand digits.
    """
    if not 1 <= len(text) <= most or not all([sign in DIGITS for sign in text]):
        return False
    return text == "0" or text[0] != "0"


def is_number(text, largest):
    """Return whether a string is a number up to one of at most five digits, without leading zeros."""
    return is_numeral(text, 5) and int(text) <= largest
