"""What the modules share: the limits of machines and rows, and how values are checked."""

from onewitness.errors import BadRow

DEEDS_MOST = 4
STATES_MOST = 8
ROW_MOST = 400


def is_number(value):
    """Tell whether any value is an integer from 0 on."""
    # Python counts True and False among the integers, the document does not.
    return isinstance(value, int) and not isinstance(value, bool) and value >= 0


def is_below(value, limit):
    """Tell whether any value is a number below the limit."""
    return is_number(value) and value < limit


def is_sequence(value, least, most):
    """Tell whether any value is a sequence of so many items."""
    return isinstance(value, (list, tuple)) and least <= len(value) <= most


def first_not_below(values, limit):
    """Return the index of the first item that is no number below the limit, or None."""
    for at, value in enumerate(values):
        if not is_below(value, limit):
            return at
    return None


def row_of(value, deeds):
    """Return a row of so many kinds of deeds as a tuple; BadRow for any other value."""
    if not is_sequence(value, 0, ROW_MOST):
        raise BadRow(-1)
    at = first_not_below(value, deeds)
    if at is not None:
        raise BadRow(at)
    return tuple(value)
