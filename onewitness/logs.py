"""Logs: rows of the deeds of some kinds, in their order, and what they tell of the state together."""

from itertools import combinations

from onewitness.alike import Alike
from onewitness.basics import are_ascending, is_number, is_sequence, row_of
from onewitness.counters import Counters, shown_of
from onewitness.errors import Refused
from onewitness.lots import lot_with
from onewitness.machines import need_exchanges, need_state, reached
from onewitness.settling import deed_pairs, settled, undoing

LOTS_MOST = 6


class Logs:
    """By kind a round, and lots of kinds for each of which somebody keeps a log."""

    def __init__(self, rounds, lots):
        # Rounds are told as those of counters are, and refused likewise.
        self.rounds = Counters(rounds).rounds
        self.kinds = len(self.rounds)
        if not is_sequence(lots, 0, LOTS_MOST) or not all([are_ascending(lot, 2, self.kinds) for lot in lots]):
            raise Refused(lots)
        self.lots = tuple([tuple(lot) for lot in lots])

    def __eq__(self, other):
        return isinstance(other, Logs) and self.rounds == other.rounds and self.lots == other.lots


def unseen_pairs(logs):
    """Return the pairs of kinds that no log has both."""
    return tuple([pair for pair in deed_pairs(logs.kinds) if not _is_seen(logs, pair)])


def _is_seen(logs, pair):
    """Tell whether some log has both kinds of a pair."""
    one, other = pair
    return len([lot for lot in logs.lots if one in lot and other in lot]) > 0


def loose_kinds(logs):
    """Return the kinds in no log."""
    return tuple([kind for kind in range(logs.kinds) if not [lot for lot in logs.lots if kind in lot]])


def sight_of(logs, row):
    """Return the sight of a row: by log the row of its deeds, by loose kind what its counter shows."""
    done = row_of(row, logs.kinds)
    showing = shown_of(Counters(logs.rounds), done)
    kept = tuple([tuple([deed for deed in done if deed in lot]) for lot in logs.lots])
    return kept, tuple([showing[kind] for kind in loose_kinds(logs)])


def _asked_rounds(logs):
    """Return by kind its round if it is loose, else 0: a log counts in full."""
    loose = loose_kinds(logs)
    return tuple([turn if kind in loose else 0 for kind, turn in enumerate(logs.rounds)])


def log_lots(machine, first, logs):
    """Return the lots of states that logs and loose counters leave open together."""
    need_state(machine, first)
    if logs.kinds != machine.deeds:
        raise Refused(logs)
    return settled(machine, first, unseen_pairs(logs), _asked_rounds(logs))


def log_fold(machine, first, logs):
    """Return how many states each of these lots has."""
    return len(log_lots(machine, first, logs)[0])


def apart_pairs(machine, first):
    """Return the pairs of deeds that lead some state that comes to unlike ones in their two orders."""
    come = reached(machine, first)
    apart = []
    for one, other in deed_pairs(machine.deeds):
        before, later = machine.tables[one], machine.tables[other]
        if [state for state in come if later[before[state]] != before[later[state]]]:
            apart.append((one, other))
    return tuple(apart)


def log_rows(machine, first, logs):
    """Return, for all states of the first one's lot, the state and a row to it, all rows of one sight."""
    lot = lot_with(log_lots(machine, first, logs), first)
    alike = Alike(machine.tables, first, unseen_pairs(logs), _asked_rounds(logs))
    rows = {state: [] for state in lot}
    for state in lot:
        still, leading = _still_and_leading(alike, first, state)
        # Ahead of both stands a row that undoes the still one. So the one leads each state to itself, the other one
        # the first state to this one, and rows that are put together of one of them for each state are alike.
        back = undoing(machine.tables, reached(machine, first), still)
        for other in lot:
            rows[other].extend(back + (leading if other == state else still))
    return tuple([(state, tuple(rows[state])) for state in lot])


def _still_and_leading(alike, first, state):
    """Return two alike rows of which one leads the first state to itself, and the other one to this state."""
    at = 0
    while alike.pair(at) != (first, state):
        at += 1
    return alike.rows_to((first, state))


def fewest_pairs(machine, first, rounds, size):
    """Return the fewest pairs of kinds whose logs leave at most so many states open, None if all leave more."""
    need_state(machine, first)
    if Logs(rounds, ()).kinds != machine.deeds:
        raise Refused(rounds)
    need_exchanges(machine, first)
    if not is_number(size) or size == 0:
        raise Refused(size)
    pairs = deed_pairs(machine.deeds)
    for many in range(len(pairs) + 1):
        for chosen in combinations(pairs, many):
            if log_fold(machine, first, Logs(rounds, chosen)) <= size:
                return chosen
    return None
