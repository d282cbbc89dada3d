"""Points [36] and [37]: lookers, each of which sees some kinds, and what they tell together."""

import random
import unittest
from itertools import product
from math import lcm

from onewitness.counters import Counters
from onewitness.errors import BadRow, Forgets, NoState, Refused, TooGreat
from onewitness.machines import Machine, forgotten, reached
from onewitness.several import check_lookers, needless_lookers, several_rows, several_tell, standings_of
from onewitness.witnesses import is_telling
from tests.helper import (
    CUBE, EIGHT, FORGETS, HOURS, ORDERS, PARTLY, SQUARE, SWAPS, TURN, WHEEL, Promises, any_rows, any_values,
    are_numbers_below, bent, counted, ends, in_full_as_rounds, is_any_sequence, is_ascending_below, loose_tables,
    points_by_length, turned,
)

FLIP = Machine([(1, 0)])
THIRD = Machine([(1, 2, 0)])
TWO = Machine([(1, 0, 3, 2), (2, 3, 0, 1)])


def cycle(length):
    return Machine([[(at + 1) % length for at in range(length)]])


def as_seer_of_all(machine, looker):
    """A looker as a machine that does all deeds, and stays where it is by those that it does not see."""
    kinds, witness, start = looker
    still = list(range(witness.states))
    return Machine([witness.tables[list(kinds).index(deed)] if deed in kinds else still
                    for deed in range(machine.deeds)])


def points_of(machine, first, lookers):
    """The tuples of a state and standings that come by rows."""
    seers = [machine, *[as_seer_of_all(machine, looker) for looker in lookers]]
    starts = [first, *[looker[2] for looker in lookers]]
    return [states for states, _ in points_by_length(seers, starts, Counters([1] * machine.deeds))]


def tells_by_walk(machine, first, counters, lookers):
    """Whether no two points have one showing and like standings, but unlike states."""
    seers = [machine, *[as_seer_of_all(machine, looker) for looker in lookers]]
    starts = [first, *[looker[2] for looker in lookers]]
    states = {}
    for (state, *standings), showing in points_by_length(seers, starts, counters):
        states.setdefault((tuple(standings), showing), set()).add(state)
    return max(len(found) for found in states.values()) == 1


def some_lookers(seed, deeds):
    """A few lookers, told by a seed: each with some kinds and a small witness that exchanges."""
    source = random.Random(seed)
    lookers = []
    for _ in range(source.randrange(4)):
        kinds = tuple(sorted(source.sample(range(deeds), source.randint(1, deeds))))
        states = source.randint(1, 4)
        lookers.append((kinds, Machine([source.sample(range(states), states) for _ in kinds]),
                        source.randrange(states)))
    return lookers


def told():
    """Machines that exchange, with lookers."""
    found = [
        (TWO, 0, [((1,), FLIP, 0)]), (TWO, 0, []), (TWO, 3, [((1,), FLIP, 1), ((0, 1), TWO, 0)]),
        (SWAPS, 0, [((0,), FLIP, 0), ((1,), FLIP, 1)]), (SWAPS, 1, [((0, 1), SWAPS, 2)]),
        (SWAPS, 0, [((0, 1), SWAPS, 0), ((0, 1), SWAPS, 1)]), (WHEEL, 0, [((0,), FLIP, 0), ((0,), cycle(4), 1)]),
        (EIGHT, 5, [((0,), cycle(3), 2), ((0,), FLIP, 0)]), (HOURS, 0, [((1,), cycle(4), 0)]),
        (CUBE, 0, [((0, 2), Machine([(1, 0), (1, 0)]), 0), ((1,), FLIP, 0)]), (PARTLY, 1, [((0, 1), SWAPS, 0)]),
        (SQUARE, 0, [((0, 1), SQUARE, 1), ((1,), FLIP, 0)]), (TURN, 3, [((0,), THIRD, 0)]),
        (ORDERS, 2, [((1,), FLIP, 0), ((0,), THIRD, 0), ((0, 1), SWAPS, 1)]),
    ]
    for seed in range(60):
        deeds = 1 + seed % 3
        found.append((turned(seed + 300, 2 + seed % 5, deeds), seed % 2, some_lookers(seed, deeds)))
    return found


def few_counters(kinds):
    return [Counters((1,) * kinds), Counters((2,) * kinds), Counters((2, 3, 1)[:kinds]), Counters((4, 1, 6)[:kinds])]


def is_looker(machine, value):
    if not is_any_sequence(value, 3):
        return False
    kinds, witness, start = value
    return (is_ascending_below(kinds, machine.deeds) and len(kinds) > 0 and type(witness) is Machine
            and witness.deeds == len(kinds) and type(start) is int and 0 <= start < witness.states)


def are_lookers(machine, value):
    return is_any_sequence(value) and len(value) <= 4 and all(is_looker(machine, item) for item in value)


WRONG_LOOKERS = (
    None, 7, "", True, ((0,), FLIP, 0), [((0,), FLIP)], [((0,), FLIP, 0, 0)], [((), FLIP, 0)], [((), SWAPS, 0)],
    [((0, 0), SWAPS, 0)], [((1, 0), SWAPS, 0)], [((0, 2), SWAPS, 0)], [((2,), FLIP, 0)], [((True,), FLIP, 0)],
    [((0,), SWAPS, 0)], [((0, 1), FLIP, 0)], [((0,), FLIP, 2)], [((0,), FLIP, -1)], [((0,), FLIP, True)],
    [((0,), FLIP, None)], [((0,), None, 0)], [((0,), [(1, 0)], 0)], [(0, FLIP, 0)], [((0,), FLIP, 0)] * 5,
    [((0,), FLIP, 0), None], [((0,), FLIP, 0), ((0,), FLIP, 3)], [((0,), Counters([1]), 0)], [[0], FLIP, 0],
)


class LookersTest(Promises):

    def test_right_ones(self):
        for machine, first, lookers in told():
            self.same(check_lookers(machine, lookers), tuple(lookers))
            in_lists = [[list(kinds), witness, start] for kinds, witness, start in lookers]
            self.same(check_lookers(machine, in_lists), tuple(lookers))
            self.same(check_lookers(value=tuple(in_lists), machine=machine), tuple(lookers))
        self.same(check_lookers(SWAPS, []), ())
        four = [((0,), FLIP, 0)] * 4
        self.same(check_lookers(SWAPS, four), tuple(four))

    def test_bent_and_any_values(self):
        forgets = Machine([(0, 0), (1, 1)])
        lookers = [((0,), FLIP, 1), ([0, 1], SWAPS, 2), ((1,), THIRD, 0)]
        values = [*WRONG_LOOKERS, *any_values(), *bent_lookers(lookers), *[[value] for value in any_values()],
                  *[((value, FLIP, 0),) for value in any_values()], *[[((0,), value, 0)] for value in any_values()],
                  *[[((0,), FLIP, value)] for value in any_values()], [((0, 1), forgets, 0)]]
        taken = 0
        for value in values:
            if are_lookers(SWAPS, value):
                taken += 1
                self.same(check_lookers(SWAPS, value),
                          tuple((tuple(kinds), witness, start) for kinds, witness, start in value))
            else:
                for call in (check_lookers, lambda machine, lookers: standings_of(machine, lookers, None),
                             lambda machine, lookers: several_tell(machine, 0, Counters([2, 2]), lookers, most=1),
                             lambda machine, lookers: several_rows(machine, 0, Counters([2, 2]), lookers),
                             lambda machine, lookers: needless_lookers(machine, 0, Counters([2, 2]), lookers)):
                    self.keeps(Refused, "at", value, call, SWAPS, value)
        self.assertGreater(taken, 10)

    def test_standings(self):
        self.same(standings_of(TWO, [((1,), FLIP, 0)], (1, 0, 1, 1)), (1,))
        self.same(standings_of(TWO, [], (1, 0)), ())
        self.same(standings_of(TWO, [((0, 1), SWAPS, 2), ((0,), THIRD, 1)], []), (2, 1))
        for machine, first, lookers in told():
            for row in [*any_rows(first, machine.deeds, 4), (machine.deeds - 1,) * 400]:
                wanted = tuple(ends(witness, start, [list(kinds).index(deed) for deed in row if deed in kinds])
                               for kinds, witness, start in lookers)
                self.same(standings_of(machine, lookers, row), wanted)
                self.same(standings_of(row=list(row), lookers=tuple(lookers), machine=machine), wanted)
        # Witnesses may forget here, and so may the machine.
        self.same(standings_of(FORGETS, [((0,), Machine([(1, 1)]), 0)], [0, 0, 1]), (1,))

    def test_bad_rows(self):
        for row, at in ((None, -1), ([0] * 401, -1), ((0, 2), 1), ([True], 0), ("0", -1), ((0, -1), 1)):
            self.refuses(BadRow, {"at": at}, standings_of, TWO, [((1,), FLIP, 0)], row)
            self.keeps(Refused, "at", LONE, standings_of, TWO, LONE, row)


LONE = [((0, 1), FLIP, 0)]


def bent_lookers(lookers):
    """Lookers with one thing changed; what is no sequence and no number stays."""
    for value in bent([[kinds, at, start] for at, (kinds, witness, start) in enumerate(lookers)]):
        yield with_witnesses(value, [witness for kinds, witness, start in lookers])


def with_witnesses(value, witnesses):
    if not is_any_sequence(value):
        return value
    found = []
    for item in value:
        if is_any_sequence(item) and len(item) > 1 and type(item[1]) is int and 0 <= item[1] < len(witnesses):
            item = type(item)([item[0], witnesses[item[1]], *item[2:]])
        found.append(item)
    return type(value)(found)


class TellTest(Promises):

    def test_against_a_walk(self):
        seen = set()
        for machine, first, lookers in told():
            for counters in few_counters(machine.deeds):
                wanted = tells_by_walk(machine, first, counters, lookers)
                note = (machine.tables, counters.rounds, [(kinds, one.tables, start) for kinds, one, start in lookers])
                self.same(several_tell(machine, first, counters, lookers), wanted, note)
                self.same(several_tell(machine, first, counters, tuple(reversed(lookers)), most=4000), wanted, note)
                seen.add((wanted, len(lookers)))
        self.assertGreaterEqual(seen, {(told, many) for told in (True, False) for many in (0, 1, 2, 3)})

    def test_kinds_in_full(self):
        for machine, first, lookers in told():
            for rounds in ((0, 0, 0), (0, 2, 0), (3, 0, 1)):
                counters = Counters(rounds[:machine.deeds])
                whole = [(machine, first)] + [(as_seer_of_all(machine, one), one[2]) for one in lookers]
                finite = in_full_as_rounds(counters, *whole)
                if max(finite.rounds) ** machine.deeds <= 300:
                    self.same(several_tell(machine, first, counters, lookers),
                              tells_by_walk(machine, first, finite, lookers))

    def test_rests_make_no_difference(self):
        for machine, first, lookers in told():
            for counters in few_counters(machine.deeds):
                rested = Counters(counters.rounds, (2, 6, 1)[:machine.deeds])
                self.same(several_tell(machine, first, rested, lookers),
                          several_tell(machine, first, counters, lookers))
            rested = Counters((2, 1, 3)[:machine.deeds], (1, 2, 0)[:machine.deeds])
            self.same(several_tell(machine, first, rested, lookers), tells_by_walk(machine, first, rested, lookers))

    def test_told_ones(self):
        half = Counters((2, 1))
        self.same(several_tell(TWO, 0, half, [((1,), FLIP, 0)]), True)
        self.same(several_tell(TWO, 0, half, []), False)
        self.same(several_tell(TWO, 0, half, [((0,), FLIP, 0)]), False)
        self.same(several_tell(SWAPS, 0, Counters((0, 0)), [((0, 1), SWAPS, 1)]), True)
        self.same(several_tell(SWAPS, 0, Counters((0, 0)), [((0,), FLIP, 0), ((1,), FLIP, 0)]), False)
        self.same(several_tell(lookers=(), counters=Counters((4,)), first=2, machine=WHEEL), True)
        self.same(several_tell(WHEEL, 0, Counters((1,)), [((0,), FLIP, 0), ((0,), cycle(4), 1)]), True)
        self.same(several_tell(EIGHT, 0, Counters((1,)), [((0,), cycle(7), 0), ((0,), cycle(5), 0)]), False)

    def test_one_looker_that_sees_all_is_a_witness(self):
        for machine, first, lookers in told():
            for kinds, witness, start in lookers:
                if len(kinds) == machine.deeds:
                    for counters in few_counters(machine.deeds) + [Counters((0,) * machine.deeds)]:
                        self.same(several_tell(machine, first, counters, [(kinds, witness, start)]),
                                  is_telling(machine, first, counters, witness, start, most=1))

    def test_a_looker_of_one_kind_is_one_more_counter(self):
        for machine, first, lookers in told():
            for kind, turn in product(range(machine.deeds), (1, 2, 3, 4, 5)):
                for counters in few_counters(machine.deeds):
                    rounds = list(counters.rounds)
                    rounds[kind] = lcm(rounds[kind], turn)
                    self.same(several_tell(machine, first, counters, [*lookers, ((kind,), cycle(turn), turn - 1)]),
                              several_tell(machine, first, Counters(rounds), lookers))

    def test_too_great_exactly_if_more_come(self):
        for machine, first, lookers in told():
            many = len(points_of(machine, first, lookers))
            counters = Counters((2,) * machine.deeds)
            for call in (several_tell, several_rows, needless_lookers):
                wanted = call(machine, first, counters, lookers)
                for most in (many, many + 1, 20000):
                    self.same(call(machine, first, counters, lookers, most=most), wanted)
                for most in {1, many // 2, many - 1}:
                    if 1 <= most < many:
                        self.refuses(TooGreat, {"most": most}, call, machine, first, counters, lookers, most=most)

    def test_4000_and_more_points(self):
        few = [((0,), cycle(7), 0), ((0,), cycle(5), 1), ((1,), cycle(4), 2)]
        still = Machine([EIGHT.tables[0], list(range(8))])
        self.assertEqual(len(points_of(still, 0, few)), 1120)
        self.same(several_tell(still, 0, Counters((8, 1)), few), True)
        self.same(several_tell(still, 0, Counters((1, 1)), few), False)
        more = [*few, ((1,), cycle(3), 0)]
        self.same(several_tell(still, 0, Counters((8, 1)), more), True)
        self.same(several_tell(still, 0, Counters((4, 1)), more), False)
        self.same(needless_lookers(still, 0, Counters((8, 1)), more), (0, 1, 2, 3))
        two = [((1,), cycle(8), 0), ((2,), cycle(8), 0), ((3,), cycle(8), 0)]
        wide = Machine([EIGHT.tables[0]] + [list(range(8))] * 3)
        self.assertEqual(8 * 8 * 8 * 8, 4096)
        for call in (several_tell, several_rows, needless_lookers):
            self.refuses(TooGreat, {"most": 4000}, call, wide, 0, Counters((8, 1, 1, 1)), two)
            self.refuses(TooGreat, {"most": 4095}, call, wide, 0, Counters((8, 1, 1, 1)), two, most=4095)
        self.same(several_tell(wide, 0, Counters((8, 1, 1, 1)), two, most=4096), True)
        self.same(several_tell(wide, 0, Counters((4, 1, 1, 1)), two, most=4096), False)
        less = [*two[:2], ((3,), cycle(7), 0)]
        self.same(several_tell(wide, 0, Counters((8, 1, 1, 1)), less), True)

    def test_errors_in_their_order(self):
        unfit, one_way = Counters((2,)), Machine([(1, 1)])
        wrong = [((0, 1), one_way, 0)]
        for call in (several_tell, several_rows, needless_lookers):
            for value in any_values():
                if not (type(value) is int and 0 <= value < 3):
                    self.keeps(NoState, "state", value, call, FORGETS, value, unfit, wrong, most=1)
            for counters in (unfit, Counters((2, 2, 2))):
                self.keeps(Refused, "at", counters, call, FORGETS, 0, counters, wrong, most=1)
            for lookers in (wrong, *WRONG_LOOKERS):
                self.keeps(Refused, "at", lookers, call, FORGETS, 0, Counters((2, 2)), lookers, most=1)
            forgetful = [((0,), FLIP, 0), ((1,), one_way, 0), ((0, 1), FORGETS, 0)]
            self.refuses(Forgets, {"deed": 0, "one": 0, "other": 1}, call, FORGETS, 0, Counters((0, 2)), forgetful,
                         most=1)
            self.refuses(Forgets, {"deed": 1, "one": 1, "other": 2}, call, FORGETS, 1, Counters((0, 2)), forgetful,
                         most=1)
            self.refuses(Forgets, {"deed": 0, "one": 0, "other": 1}, call, SWAPS, 0, Counters((0, 2)), forgetful,
                         most=1)
            self.refuses(Forgets, {"deed": 1, "one": 1, "other": 2}, call, SWAPS, 0, Counters((0, 2)),
                         [((0,), FLIP, 0), ((0, 1), FORGETS, 1), ((1,), one_way, 0)], most=1)
            # From its start on this one exchanges.
            call(SWAPS, 0, Counters((0, 2)), [((1,), one_way, 1)])

    def test_of_lookers_the_first_one_that_forgets_is_told(self):
        for seed in range(30):
            lookers = [((0, 1), loose_tables(seed + at * 100, 3, 2), at) for at in range(3)]
            lost = [forgotten(witness, start) for kinds, witness, start in lookers if forgotten(witness, start)]
            if lost:
                deed, one, other = lost[0]
                self.refuses(Forgets, {"deed": deed, "one": one, "other": other}, several_tell, SWAPS, 0,
                             Counters((2, 2)), lookers, most=1)


class SeveralRowsTest(Promises):

    def check_rows(self, machine, first, counters, lookers, rows):
        one, other = rows
        self.assertEqual((type(rows), type(one), type(other)), (tuple, tuple, tuple))
        self.assertTrue(are_numbers_below(one, machine.deeds) and are_numbers_below(other, machine.deeds))
        self.assertEqual(counted(counters, one), counted(counters, other))
        for looker in lookers:
            seer = as_seer_of_all(machine, looker)
            self.assertEqual(ends(seer, looker[2], one), ends(seer, looker[2], other))
        self.assertNotEqual(ends(machine, first, one), ends(machine, first, other))
        return max(len(one), len(other))

    def test_rows_just_where_the_state_is_not_told(self):
        for machine, first, lookers in told():
            kinds = machine.deeds
            several = few_counters(kinds) + [
                Counters((0,) * kinds), Counters((0, 2, 1)[:kinds]), Counters((2, 1, 3)[:kinds], (1, 6, 2)[:kinds]),
                Counters((1, 0, 60)[:kinds], (6, 6, 6)[:kinds]), Counters((59, 60, 7)[:kinds], (0, 1, 0)[:kinds])]
            for counters in several:
                rows = several_rows(machine, first, counters, lookers)
                if several_tell(machine, first, counters, lookers):
                    self.same(rows, None)
                else:
                    self.check_rows(machine, first, counters, lookers, rows)

    def test_400_points(self):
        for machine, first, counters, lookers in (
            (EIGHT, 3, Counters((1,), (6,)), [((0,), cycle(7), 0), ((0,), cycle(5), 0)]),
            (EIGHT, 0, Counters((59,), (6,)), [((0,), cycle(7), 0), ((0,), cycle(5), 0)]),
            (Machine([EIGHT.tables[0], list(range(8))]), 0, Counters((6, 7)),
             [((0,), cycle(7), 0), ((1,), cycle(7), 0)]),
            (turned(5, 8, 4), 0, Counters((60, 60, 60, 60), (6, 6, 6, 6)), [((0, 1), turned(6, 7, 2), 3)]),
            (turned(5, 8, 4), 0, Counters((0, 0, 0, 0)), [((0, 1), turned(6, 7, 2), 3), ((3,), cycle(6), 1)]),
            (turned(9, 7, 3), 2, Counters((0, 59, 0)), [((0, 1, 2), turned(9, 7, 3), 3), ((1,), FLIP, 1)]),
        ):
            self.assertLessEqual(len(points_of(machine, first, lookers)), 400)
            rows = several_rows(machine, first, counters, lookers)
            self.check_rows(machine, first, counters, lookers, rows)
        long_one = several_rows(EIGHT, 0, Counters((59,), (6,)), [((0,), cycle(7), 0), ((0,), cycle(5), 0)])
        self.assertGreater(max(len(row) for row in long_one), 400)

    def test_told_ones(self):
        half = Counters((2, 1))
        rows = several_rows(TWO, 0, half, [])
        self.check_rows(TWO, 0, half, [], rows)
        self.same(several_rows(TWO, 0, half, [((1,), FLIP, 0)]), None)
        self.same(several_rows(machine=TURN, first=3, counters=Counters((1, 1)), lookers=()), None)


class NeedlessTest(Promises):

    def test_against_leaving_each_out(self):
        seen = set()
        for machine, first, lookers in told():
            for counters in few_counters(machine.deeds) + [Counters((0,) * machine.deeds)]:
                wanted = ()
                if several_tell(machine, first, counters, lookers):
                    wanted = tuple(at for at in range(len(lookers)) if several_tell(
                        machine, first, counters, [*lookers[:at], *lookers[at + 1:]]))
                self.same(needless_lookers(machine, first, counters, lookers), wanted)
                seen.add(len(wanted))
        self.assertGreaterEqual(seen, {0, 1, 2, 3})

    def test_told_ones(self):
        half = Counters((2, 1))
        self.same(needless_lookers(TWO, 0, half, [((1,), FLIP, 0), ((0, 1), TWO, 0)]), (0, 1))
        self.same(needless_lookers(TWO, 0, half, [((1,), FLIP, 0)]), ())
        self.same(needless_lookers(TWO, 0, half, [((0,), FLIP, 0)]), ())
        self.same(needless_lookers(TWO, 0, half, []), ())
        self.same(needless_lookers(TWO, 0, half, [((0,), FLIP, 0), ((1,), FLIP, 1), ((0,), THIRD, 0)]), (0, 2))

    def test_points_of_all_lookers_are_told_even_where_fewer_would_do(self):
        lookers = [((0,), cycle(5), 0), ((0,), cycle(7), 0)]
        self.assertEqual(len(reached(WHEEL, 0)) * 5 * 7, 140)
        self.same(needless_lookers(WHEEL, 0, Counters((4,)), lookers, most=140), (0, 1))
        self.refuses(TooGreat, {"most": 139}, needless_lookers, WHEEL, 0, Counters((4,)), lookers, most=139)


if __name__ == "__main__":
    unittest.main()
