"""Machines that forget: when counters alone tell the state, and what a folder and a witness need beside them."""

from math import lcm

from onewitness.basics import PAIRS_MOST, Walk, ended
from onewitness.counters import Counters, need_fit
from onewitness.logs import apart_pairs
from onewitness.lots import needed_values, open_lots
from onewitness.machines import Machine, from_first, need_state, reached
from onewitness.settling import deed_pairs
from onewitness.trials import Trials


def _rows_to_states(machine, first):
    """Return, for all states that come, the state and a shortest row to it."""
    nothing = Counters((1,) * machine.deeds)
    walk = Walk(machine.tables, first, nothing, machine.states)
    return [(point[0], walk.row_to(point)) for point in walk.all_points()]


def alone_paper(machine, first, counters):
    """Return two rows of one showing to unlike states, None if there are none."""
    need_state(machine, first)
    need_fit(machine, counters)
    for state, row in _rows_to_states(machine, first):
        for one, other in _alike_parts(counters):
            if ended(machine.tables, state, one) != ended(machine.tables, state, other):
                return row + one, row + other
    return None


def _alike_parts(counters):
    """Return pairs of rows of one showing, such that all others come of putting them in each other's place."""
    kinds = len(counters.rounds)
    parts = [((one, other), (other, one)) for one, other in deed_pairs(kinds)]
    for kind, turn in enumerate(counters.rounds):
        rest = counters.rests[kind]
        if turn > 0:
            parts.append(((kind,) * rest, (kind,) * (rest + turn)))
    return parts


def least_alone(machine, first):
    """Return the least rounds and rests of counters that tell the state alone, None if none do."""
    if apart_pairs(machine, first):
        return None
    ways = [_round_and_rest(table, reached(machine, first)) for table in machine.tables]
    return tuple([turn for turn, _ in ways]), tuple([rest for _, rest in ways])


def _round_and_rest(table, states):
    """Return the least round and rest such that a table, done as often as both or as the rest, leads states alike."""
    turn, rest = 1, 0
    for state in states:
        way = [state]
        while table[way[-1]] not in way:
            way.append(table[way[-1]])
        ahead = way.index(table[way[-1]])
        turn, rest = lcm(turn, len(way) - ahead), max(rest, ahead)
    return turn, rest


def open_web(machine, first, counters, *, most):
    """Return the pairs of states to which rows of one showing lead."""
    web = {}
    for _, states in open_lots(machine, first, counters, most=most):
        for one in states:
            for other in states:
                if one < other:
                    web[(one, other)] = True
    return tuple(sorted(web))


def state_colours(machine, first, counters, *, most):
    """Return by state that comes a number, unlike ones for states left open together, as few as can be."""
    web = open_web(machine, first, counters, most=most)
    come = reached(machine, first)
    many = 1
    colours = _least_colours(come, web, many)
    while colours is None:
        many += 1
        colours = _least_colours(come, web, many)
    return tuple([colours[come.index(state)] if state in come else None for state in range(machine.states)])


def _least_colours(come, web, many):
    """Return the least numbers below so many that are unlike for each pair of the web, None if there are none."""
    begun = [()]
    while begun:
        colours = begun.pop()
        if len(colours) == len(come):
            return colours
        state = come[len(colours)]
        barred = [colours[come.index(one)] for one, other in web if other == state]
        # The least one is taken up next; none skips a number, for the skipped one would do as well.
        fresh = len(set(colours))
        for colour in reversed(range(min(fresh + 1, many))):
            if colour not in barred:
                begun.append(colours + (colour,))
    return None


def fewest_witness(machine, first, counters, *, most):
    """Return a witness, of all that there are, with the fewest standings that tells when it starts at 0."""
    trials = Trials(machine, first, counters, most)
    # The states of one open lot must leave it in unlike standings.
    for standings in range(_greatest_open_lot(machine, first, counters), len(reached(machine, first))):
        witness = trials.telling(standings)
        if witness is not None:
            return witness
    # Nothing less than the machine itself does.
    return Machine(from_first(machine, first))


def _greatest_open_lot(machine, first, counters):
    """Return how many states the greatest open lot has; TooGreat if too many pairs of a showing and a state come."""
    return needed_values(machine, first, counters, most=PAIRS_MOST)


def three_numbers(machine, first, counters, *, most):
    """Return how many values the folders need who see the counters, who do not, and how many standings a witness."""
    greatest = _greatest_open_lot(machine, first, counters)
    colours = state_colours(machine, first, counters, most=PAIRS_MOST)
    unlike = len({colour for colour in colours if colour is not None})
    return greatest, unlike, fewest_witness(machine, first, counters, most=most).states
