"""Points [17] (what a kind is worth) and [20]: the cheapest rounds, and how product and fold go together."""

import unittest
from itertools import product
from math import prod

from onewitness.boards import orders_of
from onewitness.cheapest import cheapest_rounds, fold_curve, kind_worth
from onewitness.counters import Counters
from onewitness.errors import Forgets, NoDeed, NoState, Refused
from onewitness.lots import fold_size
from onewitness.machines import Machine, reached
from tests.helper import (
    CUBE, EIGHT, FORGETS, HOURS, ORDERS, PARTLY, SQUARE, SWAPS, TURN, TWISTED, WHEEL, Promises, any_values, exchanging,
    rounds_for,
)

FULL = Counters([0, 0])


def folds_by_rounds(machine, first, greatest=None):
    """(product, rounds, fold) of all rounds that divide the orders, or else of all up to the greatest."""
    spans = [[turn for turn in range(1, order + 1) if order % turn == 0] for order in orders_of(machine, first)]
    if greatest:
        spans = [range(1, greatest + 1)] * machine.deeds
    return [(prod(rounds), rounds, fold_size(machine, first, Counters(rounds))) for rounds in product(*spans)]


def curve_of(found):
    """The curve, looked up product by product."""
    curve = []
    for cost in sorted({cost for cost, rounds, fold in found}):
        fold = min(fold for other, rounds, fold in found if other == cost)
        if all(fold < lesser for other, rounds, lesser in found if other < cost):
            curve.append((cost, fold))
    return tuple(curve)


class WorthTest(Promises):

    def test_the_fold_with_round_1_instead(self):
        for machine, first in exchanging():
            rested = Counters((0, 2, 3, 1)[:machine.deeds], (1, 6, 0, 2)[:machine.deeds])
            for counters in rounds_for(machine.deeds) + [Counters([0] * machine.deeds), rested]:
                fold = fold_size(machine, first, counters)
                for kind in range(machine.deeds):
                    rounds = list(counters.rounds)
                    rounds[kind] = 1
                    worth = kind_worth(machine, first, counters, kind)
                    self.assertIs(type(worth), int)
                    self.assertEqual(worth * fold, fold_size(machine, first, Counters(rounds)))

    def test_told_ones(self):
        self.same([kind_worth(HOURS, 0, FULL, 0), kind_worth(HOURS, 0, FULL, 1)], [4, 8])
        self.same([kind_worth(ORDERS, 0, FULL, kind) for kind in (0, 1)], [1, 2])
        self.same([kind_worth(CUBE, 0, Counters([2, 3, 4]), kind) for kind in (0, 1, 2)], [2, 1, 2])
        self.same(kind_worth(EIGHT, 0, Counters([4], [2]), 0), 4)

    def test_errors_in_their_order(self):
        unfit = Counters([2])
        for value in any_values():
            if not (type(value) is int and 0 <= value < 3):
                self.keeps(NoState, "state", value, kind_worth, FORGETS, value, unfit, None)
            if not (type(value) is int and 0 <= value < 2):
                self.keeps(NoDeed, "deed", value, kind_worth, SWAPS, 0, FULL, value)
        self.keeps(Refused, "at", unfit, kind_worth, FORGETS, 0, unfit, None)
        self.refuses(Forgets, {"deed": 0, "one": 0, "other": 1}, kind_worth, FORGETS, 0, FULL, None)
        self.refuses(NoDeed, {"deed": True}, kind_worth, SWAPS, 0, FULL, True)


class CheapestTest(Promises):

    def test_against_all_rounds_that_divide_the_orders(self):
        for machine, first in exchanging():
            found = folds_by_rounds(machine, first)
            for most in range(1, 10):
                right = [(cost, rounds) for cost, rounds, fold in found if fold <= most]
                self.same(cheapest_rounds(machine, first, most), min(right)[1] if right else None,
                          (machine.tables, most))

    def test_against_all_rounds_whatever(self):
        for machine, first in ((HOURS, 0), (ORDERS, 2), (SQUARE, 0), (SWAPS, 1), (WHEEL, 0), (EIGHT, 3), (TWISTED, 0),
                               (Machine([(1, 2, 0, 4, 5, 3), (4, 5, 3, 1, 2, 0)]), 0), (PARTLY, 1), (TURN, 3)):
            found = folds_by_rounds(machine, first, greatest=9)
            for most in range(1, 9):
                right = [(cost, rounds) for cost, rounds, fold in found if fold <= most]
                self.same(cheapest_rounds(machine, first, most), min(right)[1] if right else None,
                          (machine.tables, most))
            self.same(fold_curve(machine, first), curve_of(found))

    def test_of_one_product_the_least_rounds(self):
        self.same(cheapest_rounds(CUBE, 0, 4), (1, 1, 2))
        self.same(cheapest_rounds(CUBE, 0, 2), (1, 2, 2))
        self.same(cheapest_rounds(Machine([(1, 2, 3, 0), (3, 0, 1, 2), (1, 2, 3, 0)]), 0, 2), (2, 2, 2))
        self.same(cheapest_rounds(Machine([(1, 2, 3, 0), (0, 1, 2, 3)]), 0, 2), (2, 1))

    def test_none(self):
        self.same([cheapest_rounds(SWAPS, 0, most) for most in (1, 2, 3, 4)], [None, None, (1, 1), (1, 1)])
        self.same([cheapest_rounds(ORDERS, 0, most) for most in (2, 3, 5, 6)], [None, (1, 2), (1, 2), (1, 1)])
        self.same(cheapest_rounds(machine=HOURS, first=0, fold=10 ** 5000), (1, 1))
        self.same([cheapest_rounds(HOURS, 0, most) for most in (1, 2, 3, 4, 8)],
                  [(4, 8), (2, 4), (2, 4), (1, 2), (1, 1)])

    def test_errors_in_their_order(self):
        for value in any_values():
            if not (type(value) is int and 0 <= value < 3):
                self.keeps(NoState, "state", value, cheapest_rounds, FORGETS, value, None)
                self.keeps(NoState, "state", value, fold_curve, FORGETS, value)
            if type(value) is int and value >= 1:
                self.assertIn(cheapest_rounds(SWAPS, 0, value), (None, (1, 1)))
            else:
                self.keeps(Refused, "at", value, cheapest_rounds, SWAPS, 0, value)
                self.refuses(Forgets, {"deed": 0, "one": 0, "other": 1}, cheapest_rounds, FORGETS, 0, value)
        for value in (0, -1, True, False, None, "1", (1,)):
            self.keeps(Refused, "at", value, cheapest_rounds, HOURS, 0, value)
        self.refuses(Forgets, {"deed": 1, "one": 1, "other": 2}, fold_curve, FORGETS, 1)


class CurveTest(Promises):

    def test_against_all_rounds_that_divide_the_orders(self):
        for machine, first in exchanging():
            curve = fold_curve(machine, first)
            self.same(curve, curve_of(folds_by_rounds(machine, first)), machine.tables)
            self.assertEqual(curve[0], (1, len(reached(machine, first))))
            self.assertEqual(curve[-1][1], fold_size(machine, first, Counters([0] * machine.deeds)))
            for cost, fold in curve:
                self.assertEqual(prod(cheapest_rounds(machine, first, fold)), cost)

    def test_told_ones(self):
        self.same(fold_curve(HOURS, 0), ((1, 8), (2, 4), (8, 2), (32, 1)))
        self.same(fold_curve(ORDERS, 0), ((1, 6), (2, 3)))
        self.same(fold_curve(CUBE, 5), ((1, 8), (2, 4), (4, 2), (8, 1)))
        self.same(fold_curve(SWAPS, 0), ((1, 3),))
        self.same(fold_curve(TURN, 3), ((1, 1),))
        self.same(fold_curve(Machine([(1, 2, 3, 4, 5, 0)]), 0), ((1, 6), (2, 3), (3, 2), (6, 1)))


if __name__ == "__main__":
    unittest.main()
