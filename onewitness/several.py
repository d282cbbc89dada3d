"""Lookers: several witnesses, each of which sees some kinds of deeds, and what they tell together."""

from onewitness.alike import Alike
from onewitness.basics import are_ascending, ended, is_below, is_sequence
from onewitness.counters import need_fit
from onewitness.errors import Refused
from onewitness.machines import Machine, check_row, need_exchanges, need_state
from onewitness.settling import deed_pairs
from onewitness.together import Together

LOOKERS_MOST = 4


def check_lookers(machine, value):
    """Return lookers as tuples; Refused for any other value."""
    if not is_sequence(value, 0, LOOKERS_MOST) or not all([_is_looker(machine, item) for item in value]):
        raise Refused(value)
    return tuple([(tuple(kinds), witness, start) for kinds, witness, start in value])


def _is_looker(machine, value):
    """Tell whether any value is a looker: the kinds that it sees, its witness, and where this stands at first."""
    if not is_sequence(value, 3, 3):
        return False
    kinds, witness, start = value
    if not are_ascending(kinds, 1, machine.deeds) or not isinstance(witness, Machine):
        return False
    return witness.deeds == len(kinds) and is_below(start, witness.states)


def _looker_tables(machine, looker):
    """Return by deed of the machine how it leads the looker's standings: those that it does not see, nowhere."""
    kinds, witness, _ = looker
    still = tuple(range(witness.states))
    return tuple([witness.tables[kinds.index(deed)] if deed in kinds else still for deed in range(machine.deeds)])


def standings_of(machine, lookers, row):
    """Return by looker its standing behind a row."""
    known = check_lookers(machine, lookers)
    done = check_row(machine, row)
    return tuple([ended(_looker_tables(machine, looker), looker[2], done) for looker in known])


def _check_all(machine, first, counters, lookers):
    """Return the lookers as tuples; the errors of all functions of lookers but TooGreat."""
    need_state(machine, first)
    need_fit(machine, counters)
    known = check_lookers(machine, lookers)
    need_exchanges(machine, first)
    for _, witness, start in known:
        need_exchanges(witness, start)
    return known


def _done_together(machine, first, lookers, most):
    """Return the machine and its lookers done together; TooGreat if more than most points come."""
    parts = [machine.tables] + [_looker_tables(machine, looker) for looker in lookers]
    start = tuple([first] + [looker[2] for looker in lookers])
    return Together(parts, start, most)


def several_tell(machine, first, counters, lookers, *, most=4000):
    """Tell whether counters and lookers together always tell the state."""
    known = _check_all(machine, first, counters, lookers)
    return _done_together(machine, first, known, most).tells(counters)


def several_rows(machine, first, counters, lookers, *, most=4000):
    """Return two rows that counters and lookers do not tell apart, though they should; None if they always do."""
    known = _check_all(machine, first, counters, lookers)
    together = _done_together(machine, first, known, most)
    if together.tells(counters):
        return None
    # Behind as many deeds of each kind as its rest, its counter shows of alike rows the same.
    ahead = tuple([kind for kind, rest in enumerate(counters.rests) for _ in range(rest)])
    place = ended(together.tables, 0, ahead)
    alike = Alike(together.tables, place, deed_pairs(machine.deeds), counters.rounds)
    at = 0
    while not _is_beaten(together, alike.pair(at)):
        at += 1
    one, other = alike.rows_to(alike.pair(at))
    return ahead + one, ahead + other


def _is_beaten(together, pair):
    """Tell whether a pair of points has the same standings, but unlike states."""
    one, other = pair
    return one != other and together.standings(one) == together.standings(other)


def needless_lookers(machine, first, counters, lookers, *, most=4000):
    """Return the indices of the lookers without each of which alone the others tell the state."""
    known = _check_all(machine, first, counters, lookers)
    _done_together(machine, first, known, most)
    needless = []
    for at in range(len(known)):
        others = known[:at] + known[at + 1:]
        if _done_together(machine, first, others, most).tells(counters):
            needless.append(at)
    return tuple(needless)
