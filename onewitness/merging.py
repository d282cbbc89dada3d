"""Merges: what counters show of what several hands counted, and what is left where some counters are lost."""

from onewitness.basics import are_ascending
from onewitness.counters import Counters, check_showing, showing_of
from onewitness.errors import BadShowing, Refused


def merged(counters, showings):
    """Return what counters would show of all that several showings counted."""
    if not isinstance(showings, (list, tuple)):
        raise Refused(showings)
    sums = [0] * len(counters.rounds)
    for at, value in enumerate(showings):
        for kind, many in enumerate(_checked(counters, value, at)):
            sums[kind] += many
    # From its rest on a counter that goes round is off by whole rounds, and so is the sum.
    return showing_of(counters, sums)


def _checked(counters, value, at):
    """Return the showing of this index as a tuple; BadShowing with the index for any other value."""
    try:
        return check_showing(counters, value)
    except BadShowing:
        raise BadShowing(at) from None


def _need_kinds(counters, kinds):
    """Raise Refused for any value that is no ascending sequence of kinds."""
    if not are_ascending(kinds, 0, len(counters.rounds)):
        raise Refused(kinds)


def without_kinds(counters, kinds):
    """Return the counters that do not count these kinds."""
    _need_kinds(counters, kinds)
    rounds = [1 if kind in kinds else turn for kind, turn in enumerate(counters.rounds)]
    rests = [0 if kind in kinds else rest for kind, rest in enumerate(counters.rests)]
    return Counters(rounds, rests)


def left_showing(counters, kinds, showing):
    """Return what is left of a showing without these kinds."""
    _need_kinds(counters, kinds)
    checked = check_showing(counters, showing)
    return tuple([0 if kind in kinds else many for kind, many in enumerate(checked)])
