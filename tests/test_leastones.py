"""Points [25] and [26]: witnesses with the fewest standings."""

import unittest
from functools import lru_cache
from itertools import permutations, product
from math import lcm

from onewitness.counters import Counters
from onewitness.errors import Forgets, NoState, Refused, TooGreat
from onewitness.leastones import fewest_standings, least_witness
from onewitness.lots import fold_size
from onewitness.machines import Machine, forgotten, in_coming_order, reached
from onewitness.witnesses import is_telling
from tests.helper import (
    CUBE, FORGETS, ORDERS, PAIRS, PARTLY, SQUARE, SWAPS, TURN, WHEEL, Promises, all_tables, any_values, exchanging,
    in_full_as_rounds, points_by_length, rounds_for, turned,
)

FULL = Counters([0, 0])


def within_limits(machine, first):
    return len(reached(machine, first)) <= (6 if machine.deeds < 3 else 4)


def told():
    """Machines within the limits, with a first state."""
    found = [(machine, first) for machine, first in exchanging() if within_limits(machine, first)]
    return found + [(turned(seed, 4 + seed % 3, 2), 0) for seed in range(60, 70)] + [
        (turned(seed, 4, 3 + seed % 2), 1) for seed in range(70, 76)]


def some_counters(kinds):
    rested = Counters((2, 0, 3, 1)[:kinds], (1, 2, 0, 6)[:kinds])
    return rounds_for(kinds) + [Counters((0,) * kinds), Counters((0, 2, 1, 0)[:kinds]), rested]


@lru_cache(None)
def numbered_as_they_come(standings, deeds):
    """All exchanging witnesses of so many standings, all of which come, numbered by the first row to them."""
    found = []
    for tables in product(list(permutations(range(standings))), repeat=deeds):
        if in_coming_order(Machine(tables), 0) == tuple(range(standings)):
            found.append(Machine(tables))
    return found


@lru_cache(None)
def begun_tables(standings, deeds):
    """How many tables there are, begun or whole, of exchanging witnesses of at most so many standings."""
    begun, many = [()], 0
    while begun:
        later = []
        for told_so_far in begun:
            named = max((0,) + told_so_far) + 1
            if len(told_so_far) < named * deeds:
                for standing in range(min(named + 1, standings)):
                    if standing not in told_so_far[len(told_so_far) % deeds::deeds]:
                        later.append(told_so_far + (standing,))
        many += len(later)
        begun = later
    return many


class LeastWitnessTest(Promises):

    def check_witness(self, machine, first, counters, tables):
        self.assertEqual((type(tables), len(tables)), (tuple, machine.deeds))
        for table in tables:
            self.assertIs(type(table), tuple)
            self.assertTrue(all(type(standing) is int for standing in table))
            self.assertEqual(sorted(table), list(range(len(tables[0]))))
        witness = Machine(tables)
        self.assertEqual(reached(witness, 0), tuple(range(witness.states)))
        self.assertIsNone(forgotten(witness, 0))
        self.same(is_telling(machine, first, counters, witness, most=1), True)
        finite = in_full_as_rounds(counters, (machine, first), (witness, 0))
        if max(finite.rounds) ** machine.deeds < 200:
            points = points_by_length([machine, witness], [first, 0], Counters(finite.rounds))
            self.assertEqual(len({(standing, showing) for (state, standing), showing in points}), len(points))

    def test_it_tells_and_none_with_fewer_does(self):
        for machine, first in told():
            for counters in some_counters(machine.deeds):
                tables = least_witness(machine, first, counters, most=50000)
                self.check_witness(machine, first, counters, tables)
                self.same(fewest_standings(machine, first, counters, most=50000), len(tables[0]))
                for standings in range(1, len(tables[0])):
                    for witness in numbered_as_they_come(standings, machine.deeds):
                        self.assertFalse(is_telling(machine, first, counters, witness, most=1))

    def test_told_ones(self):
        self.same(least_witness(WHEEL, 0, Counters([2]), most=500), ((1, 2, 3, 0),))
        self.same(least_witness(WHEEL, 2, Counters([0]), most=1), ((0,),))
        for machine, counters, wanted in (
            (WHEEL, Counters([1]), 4), (WHEEL, Counters([0]), 1), (SWAPS, FULL, 3), (PAIRS, Counters([3, 1]), 4),
            (Machine([(1, 2, 0), (1, 0, 2)]), Counters([1, 2]), 3), (SQUARE, FULL, 4), (ORDERS, FULL, 3),
        ):
            self.same(fewest_standings(machine, 0, counters, most=5000), wanted)
        self.same(fewest_standings(PARTLY, 1, FULL, most=100), 3)
        self.same(fewest_standings(TURN, 3, Counters([1, 1]), most=1), 1)

    def test_more_standings_than_the_fold_and_fewer_than_states(self):
        unlike = set()
        for machine, first in told():
            for counters in some_counters(machine.deeds):
                fewest = fewest_standings(machine, first, counters, most=50000)
                unlike.add((fewest > fold_size(machine, first, counters), fewest < len(reached(machine, first))))
        self.assertEqual(unlike, {(False, False), (False, True), (True, False), (True, True)})

    def test_too_great_only_for_more_tables_than_most(self):
        for machine, first in told():
            for counters in some_counters(machine.deeds)[::2]:
                wanted = fewest_standings(machine, first, counters, most=50000)
                if wanted > 4 and machine.deeds > 2:
                    continue
                needed = begun_tables(wanted, machine.deeds)
                for most in {needed, needed + 1, 50000}:
                    self.same(fewest_standings(machine, first, counters, most=most), wanted)
                for most in {1, 2, needed // 2, needed - 1}:
                    if most >= 1:
                        for call in (fewest_standings, least_witness):
                            try:
                                call(machine, first, counters, most=most)
                            except TooGreat as error:
                                self.same(error.most, most)
                                self.assertLess(most, needed)

    def test_errors_in_their_order(self):
        unfit = Counters([2])
        for call in (least_witness, fewest_standings):
            for value in any_values():
                if not (type(value) is int and 0 <= value < 3):
                    self.keeps(NoState, "state", value, call, FORGETS, value, unfit, most=1)
            for counters in (unfit, Counters([2, 2, 2])):
                self.keeps(Refused, "at", counters, call, FORGETS, 0, counters, most=1)
            self.refuses(Forgets, {"deed": 0, "one": 0, "other": 1}, call, FORGETS, 0, FULL, most=1)
            self.refuses(Forgets, {"deed": 1, "one": 1, "other": 2}, call, FORGETS, 1, FULL, most=1)


class HoldsTest(Promises):

    def test_between_the_fold_and_the_states_that_come(self):
        for machine, first in told():
            for counters in some_counters(machine.deeds):
                fewest = fewest_standings(machine, first, counters, most=50000)
                self.assertGreaterEqual(fewest, fold_size(machine, first, counters))
                self.assertLessEqual(fewest, len(reached(machine, first)))

    def test_no_witness_that_forgets_has_fewer(self):
        for machine, first in ((SWAPS, 0), (WHEEL, 0), (SQUARE, 1), (Machine([(1, 2, 0), (1, 0, 2)]), 0), (PARTLY, 1)):
            for counters in rounds_for(machine.deeds):
                fewest = fewest_standings(machine, first, counters, most=5000)
                for standings in range(1, min(fewest, 3)):
                    for witness in all_tables(standings, machine.deeds):
                        self.assertFalse(is_telling(machine, first, counters, witness, most=20000))
        for witness in all_tables(3, 1):
            self.assertFalse(is_telling(WHEEL, 0, Counters([2]), witness, most=20000))

    def test_finer_rounds_never_need_more(self):
        for machine, first in told()[::2]:
            kinds = machine.deeds
            several = [rounds[:kinds] for rounds in product((0, 1, 2, 4), (0, 1, 2, 3), (1, 2), (1, 3))]
            needed = {rounds: fewest_standings(machine, first, Counters(rounds), most=50000) for rounds in set(several)}
            for some, others in product(needed, repeat=2):
                if all(one == other == 0 or one > 0 and other % one == 0 for one, other in zip(some, others)):
                    self.assertLessEqual(needed[others], needed[some])

    def test_counters_in_full(self):
        for machine, first in told():
            states = len(reached(machine, first))
            full = fewest_standings(machine, first, Counters([0] * machine.deeds), most=50000)
            finest = Counters([lcm(*range(1, states + 1))] * machine.deeds)
            self.same(fewest_standings(machine, first, finest, most=50000), full)
            for counters in some_counters(machine.deeds):
                self.assertGreaterEqual(fewest_standings(machine, first, counters, most=50000), full)

    def test_rests_make_no_difference(self):
        for machine, first in told()[::3]:
            for counters in rounds_for(machine.deeds):
                rested = Counters(counters.rounds, (6, 1, 0, 2)[:machine.deeds])
                self.same(fewest_standings(machine, first, rested, most=50000),
                          fewest_standings(machine, first, counters, most=50000))

    def test_three_deeds_of_two_states(self):
        self.same(fewest_standings(Machine([[1, 0]] * 3), 0, Counters([2, 2, 1]), most=50), 2)
        self.same(fewest_standings(Machine([[1, 0]] * 3), 0, Counters([2, 2, 0]), most=50), 1)
        self.same(fewest_standings(CUBE, 0, Counters([2, 2, 2]), most=3), 1)


if __name__ == "__main__":
    unittest.main()
