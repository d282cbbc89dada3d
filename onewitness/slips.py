"""Slips: counters that show some deeds too many or too few, and what the witness notices of it."""

from onewitness.basics import PAIRS_MOST, Walk, are_deeds, are_integers, ended, is_below, is_sequence
from onewitness.counters import check_showing, need_fit, shown_of
from onewitness.errors import Refused
from onewitness.machines import need_exchanges, need_exchanging_witness, need_state
from onewitness.together import with_witness


def need_plain(counters):
    """Return the counters; Refused if one of them counts in full or has a rest."""
    if 0 in counters.rounds or sum(counters.rests) > 0:
        raise Refused(counters)
    return counters


def _check_witness(counters, witness, start):
    """Raise the errors of all functions of counters and a witness, up to those of a slip or a kind."""
    need_plain(counters)
    need_exchanging_witness(len(counters.rounds), witness, start)


def _check_machine(machine, first, counters):
    """Raise the errors of a machine beside counters."""
    need_state(machine, first)
    need_plain(need_fit(machine, counters))
    need_exchanges(machine, first)


def _need_slip(counters, slip):
    """Raise Refused for any value that is no slip."""
    if not are_integers(slip, len(counters.rounds)):
        raise Refused(slip)


def _need_kind(counters, kind):
    """Raise Refused for any value that is no kind."""
    if not is_below(kind, len(counters.rounds)):
        raise Refused(kind)


def _slipped(counters, showing, slip):
    """Return the showing with a slip, modulo the rounds."""
    return tuple([(many + off) % turn for many, off, turn in zip(showing, slip, counters.rounds)])


def _slipped_first(counters, slip):
    """Return the showing of no deeds, with a slip."""
    return _slipped(counters, (0,) * len(counters.rounds), slip)


def slipped(counters, showing, slip):
    """Return the showing with a slip."""
    need_plain(counters)
    checked = check_showing(counters, showing)
    _need_slip(counters, slip)
    return _slipped(counters, checked, slip)


def _walked(tables, start, counters):
    """Return a walk through all pairs (place, counts) that come; TooGreat if there are more than 4000."""
    walk = Walk(tables, start, counters, PAIRS_MOST)
    walk.all_points()
    return walk


def _walked_with(machine, first, counters, witness, start):
    """Return a walk through all that comes of machine and witness; Refused if the witness does not tell."""
    # The pairs of counts and a standing are looked at ahead of that; if the witness tells, these are as many.
    _walked(witness.tables, start, counters)
    both = with_witness(machine, first, witness, start)
    if not both.tells(counters):
        raise Refused(witness)
    return _walked(both.tables, 0, counters)


def is_hidden(counters, witness, slip, start=0):
    """Tell whether a slip is noticed behind no row."""
    return slip_paper(counters, witness, slip, start) is not None


def slip_paper(counters, witness, slip, start=0):
    """Return ("hidden", one, other), rows that differ by a slip and end in one standing; None if it is noticed."""
    _check_witness(counters, witness, start)
    _need_slip(counters, slip)
    walk = _walked(witness.tables, start, counters)
    # What is hidden behind one row is so behind all, also behind the one without deeds.
    point = (start, _slipped_first(counters, slip))
    return ("hidden", (), walk.row_to(point)) if point in walk.before else None


def slip_holds(counters, witness, slip, value, start=0):
    """Tell whether any value is the word "hidden" and two rows that differ by the slip and end in one standing."""
    _check_witness(counters, witness, start)
    _need_slip(counters, slip)
    if not is_sequence(value, 3, 3) or value[0] != "hidden":
        return False
    one, other = value[1:]
    if not are_deeds(one, len(counters.rounds)) or not are_deeds(other, len(counters.rounds)):
        return False
    if _slipped(counters, shown_of(counters, one), slip) != shown_of(counters, other):
        return False
    return ended(witness.tables, start, one) == ended(witness.tables, start, other)


def _least_step(walk, place, counters, kind):
    """Return the least number from 1 on of deeds of a kind so that the place comes with just these shown."""
    kinds = len(counters.rounds)
    many = 1
    while (place, _slipped_first(counters, (0,) * kind + (many,) + (0,) * (kinds - kind - 1))) not in walk.before:
        many += 1
    return many


def hidden_step(counters, witness, kind, start=0):
    """Return the least number from 1 on of deeds of a kind that is hidden as a slip."""
    _check_witness(counters, witness, start)
    _need_kind(counters, kind)
    return _least_step(_walked(witness.tables, start, counters), start, counters, kind)


def slip_does(machine, first, counters, witness, slip, start=0):
    """Return what a slip does: "noticed", "harmless", or "wrong"."""
    _check_machine(machine, first, counters)
    _check_witness(counters, witness, start)
    _need_slip(counters, slip)
    walk = _walked_with(machine, first, counters, witness, start)
    # The witness stands at its start, as behind no deeds: there the showing with the slip tells the first state,
    # another one, or does not come. Place 0 of the walk is the first state with the start.
    if (0, _slipped_first(counters, slip)) in walk.before:
        return "harmless"
    return "noticed" if slip_paper(counters, witness, slip, start) is None else "wrong"


def harmless_step(machine, first, counters, witness, kind, start=0):
    """Return the least number from 1 on of deeds of a kind that does no harm as a slip."""
    _check_machine(machine, first, counters)
    _check_witness(counters, witness, start)
    _need_kind(counters, kind)
    return _least_step(_walked_with(machine, first, counters, witness, start), 0, counters, kind)
