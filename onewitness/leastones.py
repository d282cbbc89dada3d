"""The fewest standings with which a witness tells."""

from onewitness.errors import TooGreat
from onewitness.lots import fold_size
from onewitness.machines import Machine, from_first, reached
from onewitness.witnesses import is_telling


def least_witness(machine, first, counters, *, most):
    """Return the tables of a witness with as few standings as can be, that begins in standing 0 and tells."""
    fold = fold_size(machine, first, counters)
    come = reached(machine, first)
    # Rows that no counter shows lead a telling witness from any standing to equally many, a multiple of the fold,
    # and so all standings that come are a multiple of it, too: other numbers need no search.
    for standings in range(fold, len(come), fold):
        tables = _telling_tables(machine, first, counters, standings, most)
        if tables is not None:
            return tables
    # Nothing less than the machine itself does.
    return from_first(machine, first)


def fewest_standings(machine, first, counters, *, most):
    """Return how many standings a witness with as few as can be has."""
    return len(least_witness(machine, first, counters, most=most)[0])


def _telling_tables(machine, first, counters, standings, most):
    """Return the tables of a witness of just so many standings that exchanges and tells, None if there is none."""
    deeds = machine.deeds
    waiting = _gone_on((), deeds, standings)
    looked_at = 0
    while waiting:
        begun = waiting.pop()
        looked_at += 1
        if looked_at > most:
            raise TooGreat(most)
        if len(begun) < named(begun) * deeds:
            waiting.extend(_gone_on(begun, deeds, standings))
        elif named(begun) == standings:
            tables = tuple([begun[deed::deeds] for deed in range(deeds)])
            if is_telling(machine, first, counters, Machine(tables), most=most):
                return tables
    return None


def named(begun):
    """Return how many standings have come in tables begun, told as one row."""
    return max((0,) + begun) + 1


def _gone_on(begun, deeds, standings):
    """Return tables begun, told for one deed more.

    They are told as one row: standing by standing, in each deed by deed the next one. New standings are
    numbered as they come, and no deed leads two to one.
    """
    taken = begun[len(begun) % deeds::deeds]
    later = range(min(named(begun) + 1, standings))
    return [begun + (standing,) for standing in later if standing not in taken]
