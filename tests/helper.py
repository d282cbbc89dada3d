"""What the tests share: strict comparison, told errors, and any values."""

import random
import unittest
from itertools import product

from onewitness.counters import Counters, shown_on
from onewitness.errors import BadRow, NoState, TooGreat
from onewitness.logs import Logs
from onewitness.machines import Machine, reached

SWAPS = Machine([(1, 0, 2), (0, 2, 1)])
TURN = Machine([(1, 2, 0, 3), (1, 0, 2, 3)])
FORGETS = Machine([(1, 1, 2), (2, 2, 2)])
MIXED = Counters([2, 0, 3], [0, 0, 1])

WHEEL = Machine([(1, 2, 3, 0)])
EIGHT = Machine([(1, 2, 3, 4, 5, 6, 7, 0)])
HOURS = Machine([(2, 3, 4, 5, 6, 7, 0, 1), (1, 2, 3, 4, 5, 6, 7, 0)])
ORDERS = Machine([(1, 2, 0, 4, 5, 3), (3, 5, 4, 0, 2, 1)])
CUBE = Machine([[state ^ 1 << deed for state in range(8)] for deed in range(3)])
SQUARE = Machine([(1, 2, 3, 0), (1, 0, 3, 2)])
# Both deeds, done four times, do nothing; done twice they do the same.
TWISTED = Machine([(1, 2, 3, 0, 5, 6, 7, 4), (4, 7, 6, 5, 2, 1, 0, 3)])
PAIRS = Machine([(3, 0, 4, 1, 5, 2), (0, 4, 3, 2, 1, 5)])
# From state 1 on, 0, 4 and 5 do not come, and what is forgotten there does not matter.
PARTLY = Machine([(4, 2, 3, 1, 4, 0), (4, 3, 2, 1, 0, 0)])


def turned(seed, states, deeds):
    """A machine whose deeds exchange the states, told by a seed."""
    source = random.Random(seed)
    return Machine([source.sample(range(states), states) for _ in range(deeds)])


def exchanging():
    """Pairs of a machine and a first state from which it exchanges."""
    named = (SWAPS, TURN, WHEEL, EIGHT, HOURS, ORDERS, CUBE, SQUARE, TWISTED, PAIRS)
    found = [(machine, 0) for machine in named]
    found += [(TURN, 3), (PARTLY, 1), (SWAPS, 2), (Machine([[0]] * 4), 0), (Machine([[1, 0], [1, 0], [0, 1]]), 1)]
    found += [(turned(seed, 2 + seed % 7, 1 + seed % 3), seed % 2) for seed in range(24)]
    found += [(turned(7, 4, 4), 0), (turned(8, 6, 4), 3), (Machine([*CUBE.tables, CUBE.tables[1]]), 6)]
    return found


def loose_tables(seed, states, deeds):
    """A machine of any tables, told by a seed; most such machines forget."""
    source = random.Random(seed)
    return Machine([[source.randrange(states) for _ in range(states)] for _ in range(deeds)])


def rounds_for(kinds):
    """A few rounds for so many kinds."""
    few = [(1,) * kinds, (2,) * kinds, (3,) * kinds, (2, 3, 1, 4)[:kinds], (4, 1, 2, 1)[:kinds], (1, 2, 3, 2)[:kinds]]
    return [Counters(rounds) for rounds in dict.fromkeys(few)]


def any_rows(seed, deeds, many, longest=12):
    """Some rows, told by a seed."""
    source = random.Random(seed)
    return [tuple(source.randrange(deeds) for _ in range(source.randrange(longest + 1))) for _ in range(many)]


def points_by_length(machines, starts, counters, longest=None, bounds=None):
    """By point (a state of each machine, in one tuple, and a showing) to which rows lead the length of a shortest.

    Only rows as long as told are looked at, and only those that show no more than the bounds of kinds in full.
    """
    found = {(tuple(starts), (0,) * machines[0].deeds): 0}
    fresh, length = list(found), 0
    while fresh and (longest is None or length < longest):
        length += 1
        later = []
        for states, showing in fresh:
            for deed in range(machines[0].deeds):
                point = (tuple(one.tables[deed][state] for one, state in zip(machines, states)),
                         shown_on(counters, showing, deed))
                within = bounds is None or all(
                    turn > 0 or many <= bound for turn, many, bound in zip(counters.rounds, point[1], bounds))
                if within and point not in found:
                    found[point] = length
                    later.append(point)
        fresh = later
    return found


def in_full_as_rounds(counters, *told):
    """Counters with rounds in the place of 0 so long that deeds, so often, move no state that comes.

    Told are pairs of a machine that exchanges and its first state.
    """
    rounds = []
    for deed, turn in enumerate(counters.rounds):
        order = max(turn, 1)
        if turn == 0:
            places = [(machine, state) for machine, first in told for state in reached(machine, first)]
            while any(many_times(machine, deed, state, order) != state for machine, state in places):
                order += 1
        rounds.append(order)
    return Counters(rounds, counters.rests)


def many_times(machine, deed, state, many):
    for _ in range(many):
        state = machine.tables[deed][state]
    return state


def partings(places):
    """All partings of places into lots."""
    if not places:
        yield []
        return
    for parting in partings(places[1:]):
        yield [[places[0]], *parting]
        for at, lot in enumerate(parting):
            yield [*parting[:at], [places[0], *lot], *parting[at + 1:]]


def settles(machine, parting, pairs, rounds):
    """Whether a parting settles told pairs and rounds, looked up word by word."""
    lot_of = {state: at for at, lot in enumerate(parting) for state in lot}
    tables = machine.tables
    for lot in parting:
        for deed, turn in enumerate(rounds):
            if len({lot_of[tables[deed][state]] for state in lot}) > 1:
                return False
            if turn > 0 and any(lot_of[many_times(machine, deed, state, turn)] != lot_of[state] for state in lot):
                return False
        for one, other in pairs:
            if any(lot_of[tables[other][tables[one][state]]] != lot_of[tables[one][tables[other][state]]]
                   for state in lot):
                return False
    return True


def least_by_trial(machine, first, pairs, rounds):
    """The least of all partings that settle: in it states are together just if they are in each of them."""
    come = list(reached(machine, first))
    right = [parting for parting in partings(come) if settles(machine, parting, pairs, rounds)]
    always = {(one, other) for one in come for other in come
              if all(any(one in lot and other in lot for lot in parting) for parting in right)}
    least = tuple(sorted({tuple(other for other in come if (one, other) in always) for one in come}))
    assert settles(machine, least, pairs, rounds)
    return least


def is_any_sequence(value, length=None):
    """Whether any value is a list or a tuple, of this length if one is told."""
    return type(value) in (list, tuple) and (length is None or len(value) == length)


def are_numbers_below(value, limit):
    """Whether any value is a sequence of numbers below a limit."""
    return is_any_sequence(value) and all(type(item) is int and 0 <= item < limit for item in value)


def is_ascending_below(value, limit):
    """Whether any value is an ascending sequence of numbers below a limit."""
    return are_numbers_below(value, limit) and list(value) == sorted(set(value))


def ends(machine, first, row):
    """Where a row of any length leads."""
    for deed in row:
        first = machine.tables[deed][first]
    return first


def counted(counters, row):
    """What counters show of a row of any length."""
    showing = (0,) * len(counters.rounds)
    for deed in row:
        showing = shown_on(counters, showing, deed)
    return showing


def lots_by_walk(machine, first, counters):
    """The states to which rows of one showing lead, for all showings, ascending."""
    states = {}
    for (state,), showing in points_by_length([machine], [first], counters):
        states.setdefault(showing, set()).add(state)
    return tuple(sorted({tuple(sorted(lot)) for lot in states.values()}))


def all_tables(states, deeds):
    """All machines of so many states and deeds."""
    return [Machine(tables) for tables in product(list(product(range(states), repeat=states)), repeat=deeds)]


def bent(value):
    """A value of nested sequences with one thing changed, in every way: items are changed, dropped, or told twice."""
    if isinstance(value, (list, tuple)):
        kind = type(value)
        for at, item in enumerate(value):
            for other in bent(item):
                yield kind([*value[:at], other, *value[at + 1:]])
            yield kind([*value[:at], *value[at + 1:]])
            yield kind([*value[:at], item, *value[at:]])
        yield kind([*value, None])
        yield None
    elif value is None:
        yield 0
    elif isinstance(value, str):
        yield from (value + "s", value[:-1], value.upper(), " " + value, None, (value,), [value], 0)
    elif isinstance(value, (Machine, Counters)):
        yield from (None, value.tables if isinstance(value, Machine) else value.rounds)
    else:
        yield from (value + 1, value - 1, bool(value), None, str(value), (value,), [value])


def exact(value):
    """The value with the classes of all that is in it, so that True is not 1 and a list no tuple."""
    if isinstance(value, (list, tuple)):
        return (type(value).__name__, [exact(item) for item in value])
    if isinstance(value, (Machine, Counters, Logs)):
        return (type(value).__name__, [(name, exact(vars(value)[name])) for name in sorted(vars(value))])
    return (type(value).__name__, value)


def nested(depth, wrap):
    """An empty list or tuple, nested so deep."""
    value = wrap()
    for _ in range(depth - 1):
        value = wrap([value])
    return value


def any_values():
    """Values of every kind that the document knows, new ones at each call."""
    return [
        None, True, False, 0, 1, 2, 3, 4, 5, 7, 8, 60, 61, -1, -2, 10 ** 30, -10 ** 30, 10 ** 5000, -10 ** 5000,
        "", " ", "-", "0", "1", "01", "0 1", "(0, 1)", "states 1\n0", "rounds 1\nrests 0", "\n", "\ud800", "\u0663",
        (), [], (0,), [0], (0, 1), [0, 1], (1, 0, 2), [1, 0, 2], [True], (False,), (0, True), ["0"], ("",), [None],
        [-1], (10 ** 5000,), [0, 10 ** 30], (0, -10 ** 30), (2, 0), [61], (60, 6), [7], (1, 2, 3, 4), [0] * 5,
        ((0,),), [[0]], ([0],), [(0,)], [(), ()], ((1, 0, 2), [0, 2, 1]), [[0, 1], [True, 0]], [[0], [0], [0], [0]],
        [[0]] * 5, [[]], (None, (0,)), [[0, 1], None], [(0,) * 9], [[1, 0], [0]], [(8,) * 8], [(7,) * 8],
        nested(40, list), nested(40, tuple), [0, nested(39, tuple)], (nested(39, list), 0),
        SWAPS, MIXED, Counters([2]), [SWAPS], (MIXED,), Logs([2, 0], [(0, 1)]), ((0,), Machine([(1, 0)]), 0),
        [[0], SWAPS, 1], [((0,), Machine([(1, 0)]), 1)], NoState([1]), BadRow(0), [NoState(None)],
        (0,) * 400, [0] * 401, [0] * 399 + [True], (0,) * 399 + (9,), [1] * 401,
    ]


class Promises(unittest.TestCase):
    """A test case that compares strictly."""

    maxDiff = None

    def same(self, result, wanted, note=None):
        self.assertEqual(exact(result), exact(wanted), note)

    def refuses(self, error_class, told, call, *args, **named):
        """Check that the call raises this very error, and that it keeps what is told."""
        with self.assertRaises(error_class) as caught:
            call(*args, **named)
        self.assertIs(type(caught.exception), error_class)
        self.assertEqual(sorted(vars(caught.exception)), sorted(told))
        for name in told:
            kept = vars(caught.exception)[name]
            self.assertTrue(kept is told[name] or exact(kept) == exact(told[name]), name)

    def keeps(self, error_class, name, value, call, *args, **named):
        """Check that the call raises an error that keeps this very value."""
        with self.assertRaises(error_class) as caught:
            call(*args, **named)
        self.assertIs(type(caught.exception), error_class)
        self.assertIs(vars(caught.exception)[name], value)

    def is_search(self, needed, call, *args, **named):
        """Check a search that needs so many things: its answer, and when it may raise TooGreat. Return the answer."""
        answer = call(*args, **named, most=20000)
        self.same(call(*args, **named, most=max(1, needed)), answer)
        for most in sorted({1, needed // 2, needed - 1}):
            if 1 <= most < needed:
                try:
                    self.same(call(*args, **named, most=most), answer)
                except TooGreat as error:
                    self.assertIs(type(error), TooGreat)
                    self.same(error.most, most)
        return answer

    def answers(self, call, value, wanted):
        """Check a call with any value against (error class, at) or a wanted result."""
        if isinstance(wanted, tuple) and len(wanted) == 2 and isinstance(wanted[0], type):
            self.refuses(wanted[0], {"at": wanted[1]}, call, value)
        else:
            self.same(call(value), wanted)
