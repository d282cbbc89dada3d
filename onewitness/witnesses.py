"""Witnesses: whether a machine that goes along with the deeds tells the state beside the counters."""

from onewitness.basics import Walk, are_deeds, ended, is_sequence
from onewitness.counters import check_showing, is_finite, need_fit, shown_of
from onewitness.errors import Refused
from onewitness.machines import need_state, need_witness
from onewitness.together import with_witness


def _check_witness(machine, first, counters, witness, start):
    """Raise the errors of all functions of witnesses."""
    need_state(machine, first)
    need_fit(machine, counters)
    need_witness(machine.deeds, witness, start)


def _need_finite(counters):
    """Raise Refused if a kind is counted in full."""
    if not is_finite(counters):
        raise Refused(counters)


def is_telling(machine, first, counters, witness, start=0, *, most):
    """Tell whether the witness tells the state beside the counters."""
    _check_witness(machine, first, counters, witness, start)
    both = with_witness(machine, first, witness, start)
    if both.exchange():
        return both.tells(counters)
    _need_finite(counters)
    return both.beaten(Walk(both.tables, 0, counters, most)) is None


def beaten_rows(machine, first, counters, witness, start=0, *, most):
    """Return two rows that the counters and the witness do not tell apart, though they should; None if it tells."""
    _check_witness(machine, first, counters, witness, start)
    both = with_witness(machine, first, witness, start)
    if both.exchange():
        if both.tells(counters):
            return None
    else:
        _need_finite(counters)
    return both.beaten(Walk(both.tables, 0, counters, most))


def beaten_holds(machine, first, counters, witness, start, value):
    """Tell whether any value is two rows of one showing to one standing and unlike states."""
    _check_witness(machine, first, counters, witness, start)
    if not is_sequence(value, 2, 2) or not all([are_deeds(row, machine.deeds) for row in value]):
        return False
    one, other = value
    if shown_of(counters, one) != shown_of(counters, other):
        return False
    if ended(witness.tables, start, one) != ended(witness.tables, start, other):
        return False
    return ended(machine.tables, first, one) != ended(machine.tables, first, other)


def states_left(machine, first, counters, witness, showing, standing, start=0, *, most):
    """Return the states to which rows lead that have the showing and leave the witness in the standing."""
    _check_witness(machine, first, counters, witness, start)
    wanted = check_showing(counters, showing)
    need_state(witness, standing)
    both = with_witness(machine, first, witness, start)
    walk = Walk(both.tables, 0, counters, most, bounds=wanted)
    pairs = [both.points[place] for place, seen in walk.all_points() if seen == wanted]
    return tuple(sorted([state for state, left in pairs if left == standing]))
