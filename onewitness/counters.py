"""Counters of deeds by kind, and their showings."""

from onewitness.basics import DEEDS_MOST, first_not_below, is_below, is_number, is_sequence, row_of
from onewitness.errors import BadShowing, NoDeed, Refused, TooGreat

ROUND_MOST = 60
REST_MOST = 6


class Counters:
    """Counters, told by kind by a round (0 counts in full) and a rest."""

    def __init__(self, rounds, rests=()):
        if not is_sequence(rounds, 1, DEEDS_MOST) or first_not_below(rounds, ROUND_MOST + 1) is not None:
            raise Refused(rounds)
        if not _are_rests(rests, len(rounds)):
            raise Refused(rests)
        self.rounds = tuple(rounds)
        self.rests = tuple(rests) if rests else (0,) * len(rounds)

    def __eq__(self, other):
        return isinstance(other, Counters) and self.rounds == other.rounds and self.rests == other.rests


def _are_rests(value, kinds):
    """Tell whether any value is an empty sequence, or one of a rest a kind."""
    if is_sequence(value, 0, 0):
        return True
    return is_sequence(value, kinds, kinds) and first_not_below(value, REST_MOST + 1) is None


def need_fit(machine, counters):
    """Return the counters; Refused if they have not a kind for each deed."""
    if len(counters.rounds) != machine.deeds:
        raise Refused(counters)
    return counters


def is_finite(counters):
    """Tell whether no kind is counted in full."""
    return 0 not in counters.rounds


def _need_kind(counters, kind):
    """Raise NoDeed for any value that is no kind."""
    if not is_below(kind, len(counters.rounds)):
        raise NoDeed(kind)


def _shows(counters, kind, many):
    """Return what the kind's counter shows of a number."""
    turn, rest = counters.rounds[kind], counters.rests[kind]
    if turn == 0 or many < rest:
        return many
    return rest + (many - rest) % turn


def shown_number(counters, kind, many):
    """Return what the kind's counter shows of a number."""
    _need_kind(counters, kind)
    if not is_number(many):
        raise Refused(many)
    return _shows(counters, kind, many)


def showing_of(counters, counts):
    """Return what counters show of so many deeds of each kind."""
    return tuple([_shows(counters, kind, many) for kind, many in enumerate(counts)])


def shown_of(counters, deeds):
    """Return the showing of deeds, however many."""
    return showing_of(counters, [deeds.count(kind) for kind in range(len(counters.rounds))])


def shown(counters, row):
    """Return the showing of a row."""
    return shown_of(counters, row_of(row, len(counters.rounds)))


def _can_show(counters, kind, value):
    """Tell whether the kind's counter can show this value."""
    turn = counters.rounds[kind]
    if turn == 0:
        return is_number(value)
    return is_below(value, counters.rests[kind] + turn)


def check_showing(counters, value):
    """Return a showing as a tuple; BadShowing for any other value."""
    kinds = len(counters.rounds)
    if not is_sequence(value, kinds, kinds):
        raise BadShowing(-1)
    for kind, item in enumerate(value):
        if not _can_show(counters, kind, item):
            raise BadShowing(kind)
    return tuple(value)


def shown_on(counters, showing, deed):
    """Return the showing one deed later."""
    items = list(check_showing(counters, showing))
    _need_kind(counters, deed)
    # What a counter shows of one more hangs on what it shows alone, so it may count on from there.
    items[deed] = _shows(counters, deed, items[deed] + 1)
    return tuple(items)


def _sizes(counters):
    """Return by kind how many numbers its counter can show; Refused for a round 0."""
    if not is_finite(counters):
        raise Refused(counters)
    return [turn + rest for turn, rest in zip(counters.rounds, counters.rests)]


def showings_many(counters):
    """Return how many showings there are."""
    many = 1
    for size in _sizes(counters):
        many = many * size
    return many


def all_showings(counters, *, most):
    """Return all showings, ascending; TooGreat if there are more than most."""
    if showings_many(counters) > most:
        raise TooGreat(most)
    showings = [()]
    for size in _sizes(counters):
        showings = [showing + (item,) for showing in showings for item in range(size)]
    return tuple(showings)
