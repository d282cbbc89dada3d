"""Lots: which states counters leave open together, and what a folder must keep beside the counters."""

from onewitness.basics import Walk, are_deeds, ended, is_below, is_sequence
from onewitness.counters import check_showing, is_finite, need_fit, shown_of
from onewitness.errors import Refused
from onewitness.machines import need_state, reached
from onewitness.settling import deed_pairs, moved_by, settled


def lots_of(machine, first, counters):
    """Return the lots that the counters tell, ascending."""
    need_state(machine, first)
    need_fit(machine, counters)
    return settled(machine, first, deed_pairs(machine.deeds), counters.rounds)


def lot_with(lots, state):
    """Return the lot in which the state is."""
    return [lot for lot in lots if state in lot][0]


def fold_size(machine, first, counters):
    """Return how many states each lot has."""
    return len(lots_of(machine, first, counters)[0])


def fold_values(machine, first, counters):
    """Return by state its place in its lot, None if it does not come."""
    values = [None] * machine.states
    for lot in lots_of(machine, first, counters):
        for place, state in enumerate(lot):
            values[state] = place
    return tuple(values)


def lot_shown(machine, first, counters, showing):
    """Return the lot to which rows of a showing lead."""
    lots = lots_of(machine, first, counters)
    return lot_with(lots, moved_by(machine.tables, first, check_showing(counters, showing)))


def told_state(machine, first, counters, showing, value):
    """Return the state that a showing and a value of the fold tell."""
    lot = lot_shown(machine, first, counters, showing)
    if not is_below(value, len(lot)):
        raise Refused(value)
    return lot[value]


def open_lots(machine, first, counters, *, most):
    """Return all showings that rows have, each with the states to which rows with it lead."""
    need_state(machine, first)
    need_fit(machine, counters)
    if not is_finite(counters):
        raise Refused(counters)
    states = {}
    for state, showing in Walk(machine.tables, first, counters, most).all_points():
        states.setdefault(showing, []).append(state)
    return tuple([(showing, tuple(sorted(states[showing]))) for showing in sorted(states)])


def open_lot(machine, first, counters, showing, *, most):
    """Return the states to which rows with this showing lead."""
    need_state(machine, first)
    need_fit(machine, counters)
    wanted = check_showing(counters, showing)
    walk = Walk(machine.tables, first, counters, most, bounds=wanted)
    return tuple(sorted([state for state, seen in walk.all_points() if seen == wanted]))


def needed_values(machine, first, counters, *, most):
    """Return how many states the greatest open lot has."""
    return max([len(states) for showing, states in open_lots(machine, first, counters, most=most)])


def lot_rows(machine, first, counters, *, most):
    """Return rows of one showing, as many as a lot has states, that lead to unlike states."""
    fold = fold_size(machine, first, counters)
    walk = Walk(machine.tables, first, counters, most)
    alike = {}
    at = 0
    while True:
        point = walk.point(at)
        same = alike.setdefault(point[1], [])
        same.append(point)
        if len(same) == fold:
            return tuple([walk.row_to(one) for one in same])
        at += 1


def rows_hold(machine, first, counters, value):
    """Tell whether any value is rows of one showing, as many as a lot has states, that lead to unlike states."""
    fold = fold_size(machine, first, counters)
    if not is_sequence(value, fold, fold) or not all([are_deeds(row, machine.deeds) for row in value]):
        return False
    showings = len({shown_of(counters, row) for row in value})
    return showings == 1 and len({ended(machine.tables, first, row) for row in value}) == fold


def values_hold(machine, first, counters, value):
    """Tell whether any value tells by state a number below the fold's size, unlike ones within a lot."""
    lots = lots_of(machine, first, counters)
    if not is_sequence(value, machine.states, machine.states):
        return False
    come = reached(machine, first)
    for state, item in enumerate(value):
        if state in come and not is_below(item, len(lots[0])):
            return False
        if state not in come and item is not None:
            return False
    return all([len({value[at] for at in lot}) == len(lot) for lot in lots])
