"""Point [11]: settling, and the lots that counters tell."""

import unittest
from itertools import product

from onewitness.counters import Counters
from onewitness.errors import Forgets, NoState, Refused
from onewitness.lots import lots_of
from onewitness.machines import Machine, forgotten, reached
from onewitness.settling import settled
from tests.helper import (
    CUBE, EIGHT, FORGETS, ORDERS, PARTLY, SQUARE, SWAPS, TURN, TWISTED, WHEEL, Promises, any_values, exchanging, exact,
    in_full_as_rounds, least_by_trial, lots_by_walk, rounds_for, turned,
)


class SettledTest(Promises):

    def test_nothing_to_be_settled(self):
        for machine, first in exchanging():
            alone = tuple((state,) for state in reached(machine, first))
            self.same(settled(machine, first, [], [0] * machine.deeds), alone)
            self.same(settled(machine, first, (), (0,) * machine.deeds), alone)

    def test_pairs_of_equal_deeds_ask_nothing(self):
        for machine, first in exchanging():
            alone = tuple((state,) for state in reached(machine, first))
            equal = [(deed, deed) for deed in range(machine.deeds)]
            self.same(settled(machine, first, equal + equal, [0] * machine.deeds), alone)

    def test_one_pair(self):
        self.same(settled(SWAPS, 0, [(0, 1)], [0, 0]), ((0, 1, 2),))
        self.same(settled(ORDERS, 0, [(0, 1)], [0, 0]), ((0, 1, 2), (3, 4, 5)))
        self.same(settled(CUBE, 0, [(0, 1), (1, 2), (0, 2)], [0, 0, 0]), tuple((state,) for state in range(8)))
        self.same(settled(SQUARE, 0, [(0, 1)], [0, 0]), ((0, 2), (1, 3)))

    def test_rounds_alone(self):
        for turn, lots in (
            (0, ((0,), (1,), (2,), (3,))), (1, ((0, 1, 2, 3),)), (2, ((0, 2), (1, 3))), (3, ((0, 1, 2, 3),)),
            (4, ((0,), (1,), (2,), (3,))), (6, ((0, 2), (1, 3))), (60, ((0,), (1,), (2,), (3,))),
            (10 ** 18, ((0,), (1,), (2,), (3,))), (10 ** 18 + 2, ((0, 2), (1, 3))),
        ):
            self.same(settled(WHEEL, 0, [], [turn]), lots)
            self.same(settled(WHEEL, 3, (), (turn,)), lots)

    def test_pairs_in_any_order_and_told_twice(self):
        for machine, first in exchanging():
            deeds = range(machine.deeds)
            for one, other in product(deeds, repeat=2):
                rounds = [0] * machine.deeds
                wanted = settled(machine, first, [(one, other)], rounds)
                for pairs in ([(other, one)], [[one, other]], ([other, one], (one, other)), [(one, other)] * 3,
                              [(one, one), (other, one), (other, other)], [(one, other)] * 100):
                    self.same(settled(machine, first, pairs, rounds), wanted)
                    self.same(settled(machine, first, pairs, tuple(rounds)), wanted)

    def test_the_least_of_all_partings(self):
        for machine, first in exchanging():
            if len(reached(machine, first)) > 6:
                continue
            deeds = machine.deeds
            pair_lists = [[], [(0, deeds - 1)], [(deeds - 1, 0), (deeds // 2, 0)],
                          list(product(range(deeds), repeat=2))]
            some_rounds = ((0, 0, 0, 0), (1, 0, 0, 0), (2, 2, 2, 2), (0, 3, 2, 5), (5, 4, 3, 0), (0, 60, 1, 3))
            for pairs, rounds in product(pair_lists, some_rounds):
                self.same(settled(machine, first, pairs, list(rounds[:deeds])),
                          least_by_trial(machine, first, pairs, rounds[:deeds]), (machine.tables, pairs, rounds))

    def test_ascending_within_and_without(self):
        backwards = Machine([(7, 6, 5, 4, 3, 2, 1, 0), (2, 3, 4, 5, 6, 7, 0, 1)])
        self.same(settled(backwards, 5, [], [1, 0]), ((0, 3, 4, 7), (1, 2, 5, 6)))
        for machine, first in exchanging():
            lots = settled(machine, first, [], [2] * machine.deeds)
            self.assertEqual(list(lots), sorted(lots))
            self.assertEqual(sorted(state for lot in lots for state in lot), list(reached(machine, first)))
            for lot in lots:
                self.assertEqual(list(lot), sorted(lot))

    def test_states_that_do_not_come_are_left_out(self):
        self.same(settled(PARTLY, 1, [(0, 1)], [0, 0]), ((1, 2, 3),))
        self.same(settled(PARTLY, 3, [], [0, 0]), ((1,), (2,), (3,)))
        self.same(settled(TURN, 3, [(0, 1)], [1, 1]), ((3,),))

    def test_errors(self):
        for value in any_values():
            if not (type(value) is int and 0 <= value < 3):
                self.keeps(NoState, "state", value, settled, FORGETS, value, [], [0, 0])
        self.refuses(Forgets, {"deed": 0, "one": 0, "other": 1}, settled, FORGETS, 0, [(0, 1)], [0, 0])
        self.refuses(Forgets, {"deed": 1, "one": 1, "other": 2}, settled, FORGETS, 1, [], [1, 1])
        self.same(settled(FORGETS, 2, [], [1, 1]), ((2,),))


class LotsOfTest(Promises):

    def test_all_pairs_and_the_rounds(self):
        for machine, first in exchanging():
            for counters in rounds_for(machine.deeds) + [Counters([0] * machine.deeds), Counters([60] * machine.deeds)]:
                pairs = list(product(range(machine.deeds), repeat=2))
                wanted = settled(machine, first, pairs, counters.rounds)
                self.same(lots_of(machine, first, counters), wanted)
                self.same(lots_of(machine=machine, first=first, counters=counters), wanted)

    def test_rests_make_no_difference(self):
        for machine, first in exchanging():
            for counters in rounds_for(machine.deeds) + [Counters([0] * machine.deeds)]:
                for rests in ((1, 2, 6, 0), (6,) * 4):
                    rested = Counters(counters.rounds, rests[:machine.deeds])
                    self.same(lots_of(machine, first, rested), lots_of(machine, first, counters))

    def test_all_lots_are_equally_great(self):
        for machine, first in exchanging():
            for counters in rounds_for(machine.deeds) + [Counters((0, 2, 0, 3)[:machine.deeds])]:
                sizes = {len(lot) for lot in lots_of(machine, first, counters)}
                self.assertEqual(len(sizes), 1)
                self.assertEqual(len(reached(machine, first)) % sizes.pop(), 0)

    def test_what_rows_of_one_showing_come_to(self):
        for machine, first in exchanging():
            in_full = [Counters((0,) * machine.deeds), Counters((0, 1, 2, 0)[:machine.deeds])]
            for counters in rounds_for(machine.deeds) + in_full:
                told = in_full_as_rounds(counters, (machine, first))
                if max(told.rounds) ** machine.deeds > 600:
                    continue
                self.same(lots_of(machine, first, counters), lots_by_walk(machine, first, told),
                          (machine.tables, counters.rounds))

    def test_told_machines(self):
        self.same(lots_of(WHEEL, 0, Counters([2])), ((0, 2), (1, 3)))
        self.same(lots_of(WHEEL, 0, Counters([0])), ((0,), (1,), (2,), (3,)))
        self.same(lots_of(EIGHT, 5, Counters([12])), ((0, 4), (1, 5), (2, 6), (3, 7)))
        self.same(lots_of(TWISTED, 0, Counters([0, 0])), ((0, 2), (1, 3), (4, 6), (5, 7)))
        self.same(lots_of(PARTLY, 2, Counters([0, 0])), ((1, 2, 3),))

    def test_errors_in_their_order(self):
        unfit = Counters([2])
        for value in any_values():
            if not (type(value) is int and 0 <= value < 3):
                self.keeps(NoState, "state", value, lots_of, FORGETS, value, unfit)
        for counters in (unfit, Counters([2, 2, 2]), Counters([1] * 4)):
            self.keeps(Refused, "at", counters, lots_of, FORGETS, 0, counters)
            self.keeps(Refused, "at", counters, lots_of, SWAPS, 0, counters)
        self.refuses(Forgets, {"deed": 0, "one": 0, "other": 1}, lots_of, FORGETS, 0, Counters([2, 2]))

    def test_the_least_three_that_forget(self):
        for seed in range(40):
            machine = turned(seed, 5, 2)
            tables = [list(table) for table in machine.tables]
            tables[seed % 2][seed % 5] = tables[seed % 2][(seed + 1) % 5]
            machine = Machine(tables)
            found = forgotten(machine, 2)
            if found is None:
                self.assertIn(2, [state for lot in lots_of(machine, 2, Counters([2, 0])) for state in lot])
            else:
                told = dict(zip(("deed", "one", "other"), found))
                self.refuses(Forgets, told, lots_of, machine, 2, Counters([2, 0]))
                self.refuses(Forgets, told, settled, machine, 2, [], [2, 0])

    def test_exact_kinds_of_values(self):
        self.assertEqual(exact(lots_of(WHEEL, 0, Counters([2]))), exact(((0, 2), (1, 3))))


if __name__ == "__main__":
    unittest.main()
