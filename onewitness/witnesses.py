"""Witnesses: whether a machine that goes along with the deeds tells the state beside the counters."""

from onewitness.basics import Walk, are_deeds, ended, is_sequence
from onewitness.counters import check_showing, is_finite, need_fit, shown_of
from onewitness.errors import Refused
from onewitness.machines import need_state
from onewitness.settling import deed_pairs, least_parting


class Together:
    """A machine and a witness done together: the pairs (state, standing) that come, and by deed the next pair.

    Pairs are numbered in the order in which they come; the tables are those of a machine of them.
    """

    def __init__(self, machine, first, witness, start):
        self.pairs = [(first, start)]
        steps = [[] for table in machine.tables]
        number = {self.pairs[0]: 0}
        at = 0
        while at < len(self.pairs):
            state, standing = self.pairs[at]
            for deed, row in enumerate(steps):
                pair = (machine.tables[deed][state], witness.tables[deed][standing])
                if pair not in number:
                    number[pair] = len(self.pairs)
                    self.pairs.append(pair)
                row.append(number[pair])
            at += 1
        self.tables = tuple([tuple(row) for row in steps])

    def exchange(self):
        """Tell whether no deed leads two unlike pairs to one."""
        return all([len(set(table)) == len(table) for table in self.tables])

    def tells(self, counters):
        """Tell, of what exchanges together, whether standing and showing tell the state."""
        places = list(range(len(self.pairs)))
        lots = least_parting(self.tables, places, deed_pairs(len(self.tables)), counters.rounds)
        # Pairs are unlike, so two of one standing have unlike states.
        return all([len({self.pairs[at][1] for at in lot}) == len(lot) for lot in lots])

    def beaten(self, walk):
        """Return two rows of one showing to one standing and unlike states, the first that a walk finds, or None."""
        seen = {}
        at = 0
        point = walk.point(at)
        while point is not None:
            place, showing = point
            left = (self.pairs[place][1], showing)
            if left in seen:
                return walk.row_to(seen[left]), walk.row_to(point)
            seen[left] = point
            at += 1
            point = walk.point(at)
        return None


def _check_witness(machine, first, counters, witness, start):
    """Raise the errors of all functions of witnesses."""
    need_state(machine, first)
    need_fit(machine, counters)
    if witness.deeds != machine.deeds:
        raise Refused(witness)
    need_state(witness, start)


def _need_finite(counters):
    """Raise Refused if a kind is counted in full."""
    if not is_finite(counters):
        raise Refused(counters)


def is_telling(machine, first, counters, witness, start=0, *, most):
    """Tell whether the witness tells the state beside the counters."""
    _check_witness(machine, first, counters, witness, start)
    both = Together(machine, first, witness, start)
    if both.exchange():
        return both.tells(counters)
    _need_finite(counters)
    return both.beaten(Walk(both.tables, 0, counters, most)) is None


def beaten_rows(machine, first, counters, witness, start=0, *, most):
    """Return two rows that the counters and the witness do not tell apart, though they should; None if it tells."""
    _check_witness(machine, first, counters, witness, start)
    both = Together(machine, first, witness, start)
    if both.exchange():
        if both.tells(counters):
            return None
    else:
        _need_finite(counters)
    return both.beaten(Walk(both.tables, 0, counters, most))


def beaten_holds(machine, first, counters, witness, start, value):
    """Tell whether any value is two rows of one showing to one standing and unlike states."""
    _check_witness(machine, first, counters, witness, start)
    if not is_sequence(value, 2, 2) or not all([are_deeds(row, machine.deeds) for row in value]):
        return False
    one, other = value
    if shown_of(counters, one) != shown_of(counters, other):
        return False
    if ended(witness.tables, start, one) != ended(witness.tables, start, other):
        return False
    return ended(machine.tables, first, one) != ended(machine.tables, first, other)


def states_left(machine, first, counters, witness, showing, standing, start=0, *, most):
    """Return the states to which rows lead that have the showing and leave the witness in the standing."""
    _check_witness(machine, first, counters, witness, start)
    wanted = check_showing(counters, showing)
    need_state(witness, standing)
    both = Together(machine, first, witness, start)
    walk = Walk(both.tables, 0, counters, most, bounds=wanted)
    pairs = [both.pairs[place] for place, seen in walk.all_points() if seen == wanted]
    return tuple(sorted([state for state, left in pairs if left == standing]))
