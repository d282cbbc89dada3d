"""Points [16], [17], [18] and [19]: boards, plain rounds, counts of any size, and joint counters."""

import random
import unittest
from itertools import product
from math import gcd, prod

from onewitness.boards import (
    board_basis, board_of, joint_counters, joint_holds, lot_after, needless_kinds, orders_of, plain_rounds, tell_alike,
)
from onewitness.counters import Counters
from onewitness.errors import Forgets, NoState, Refused
from onewitness.lots import lots_of
from onewitness.machines import Machine, reached
from tests.helper import (
    CUBE, EIGHT, FORGETS, HOURS, ORDERS, PARTLY, SQUARE, SWAPS, TURN, TWISTED, WHEEL, Promises, any_values, bent, ends,
    exchanging, in_full_as_rounds, lots_by_walk, rounds_for,
)

FULL = Counters([0, 0])
# Machines whose boards are the groups of eight, six and four, the deeds in several manners.
GROUPS = (
    HOURS, CUBE, ORDERS, EIGHT, WHEEL, SQUARE, TWISTED,
    Machine([(1, 0, 3, 2), (2, 3, 0, 1)]), Machine([(1, 0, 3, 2), (2, 3, 0, 1), (3, 2, 1, 0), (0, 1, 2, 3)]),
    Machine([(1, 2, 3, 0, 5, 6, 7, 4), (4, 5, 6, 7, 0, 1, 2, 3)]),
    Machine([(5, 6, 7, 4, 1, 2, 3, 0), (3, 0, 1, 2, 7, 4, 5, 6), (4, 5, 6, 7, 0, 1, 2, 3)]),
    Machine([(3, 4, 5, 0, 1, 2), (1, 2, 0, 4, 5, 3)]), Machine([(1, 2, 0, 4, 5, 3), (4, 5, 3, 1, 2, 0)]),
    Machine([(0, 1, 2), (1, 2, 0), (2, 0, 1)]), Machine([(1, 2, 3, 4, 5, 6, 0), (3, 4, 5, 6, 0, 1, 2)]),
)


def told_boards():
    """Machines with a first state and counters."""
    for machine, first in exchanging() + [(machine, 0) for machine in GROUPS]:
        kinds = machine.deeds
        for counters in rounds_for(kinds)[1:] + [Counters((0,) * kinds),
                                                 Counters((0, 2, 0, 1)[:kinds], (6, 1, 0, 2)[:kinds])]:
            yield machine, first, counters


def many_of(counts):
    """A row of so many deeds, the kinds in turns."""
    left, row = list(counts), []
    while any(left):
        for kind, many in enumerate(left):
            if many:
                row.append(kind)
                left[kind] -= 1
    return row


def lot_number(lots, state):
    return [at for at, lot in enumerate(lots) if state in lot][0]


class BoardTest(Promises):

    def test_lots_and_moves(self):
        for machine, first in exchanging() + [(machine, 0) for machine in GROUPS]:
            lots, moves = board_of(machine, first)
            self.same(lots, lots_of(machine, first, Counters([0] * machine.deeds)))
            self.assertIs(type(board_of(machine, first)), tuple)
            self.assertEqual((type(moves), len(moves)), (tuple, machine.deeds))
            for deed, table in enumerate(moves):
                self.assertEqual((type(table), len(table)), (tuple, len(lots)))
                for at, lot in enumerate(lots):
                    for state in lot:
                        self.assertIn(machine.tables[deed][state], lots[table[at]])

    def test_lots_by_walks(self):
        for machine, first in exchanging():
            told = in_full_as_rounds(Counters([0] * machine.deeds), (machine, first))
            if prod(told.rounds) <= 1500:
                self.same(board_of(machine, first)[0], lots_by_walk(machine, first, told))

    def test_what_holds_on_a_board(self):
        for machine, first in exchanging() + [(machine, 0) for machine in GROUPS]:
            lots, moves = board_of(machine, first)
            orders = orders_of(machine, first)
            for at in range(len(lots)):
                for one, other in product(moves, repeat=2):
                    self.assertEqual(one[other[at]], other[one[at]])
                for deed, order in enumerate(orders):
                    back = [many for many in range(1, order + 1) if self.done(moves[deed], at, many) == at]
                    self.assertEqual(back, [order])
                self.assertEqual(len(reached(Machine(moves), at)), len(lots))

    def done(self, table, at, many):
        for _ in range(many):
            at = table[at]
        return at

    def test_told_boards(self):
        self.same(board_of(ORDERS, 0), (((0, 1, 2), (3, 4, 5)), ((0, 1), (1, 0))))
        self.same(board_of(TURN, 3), (((3,),), ((0,), (0,))))
        self.same(board_of(PARTLY, 2), (((1, 2, 3),), ((0,), (0,))))
        self.same([orders_of(ORDERS, 0), orders_of(HOURS, 5), orders_of(CUBE, 0)], [(1, 2), (4, 8), (2, 2, 2)])
        self.same([orders_of(SWAPS, 0), orders_of(PARTLY, 1), orders_of(WHEEL, 3)], [(1, 1), (1, 1), (4,)])

    def test_errors(self):
        for call in (board_of, orders_of, needless_kinds):
            for value in any_values():
                if not (type(value) is int and 0 <= value < 3):
                    self.keeps(NoState, "state", value, call, FORGETS, value)
            self.refuses(Forgets, {"deed": 0, "one": 0, "other": 1}, call, FORGETS, 0)
            self.refuses(Forgets, {"deed": 1, "one": 1, "other": 2}, call, FORGETS, 1)


class PlainRoundsTest(Promises):

    def test_the_greatest_number_that_divides_both(self):
        for machine, first in exchanging():
            orders = orders_of(machine, first)
            for turn in (0, 1, 2, 3, 4, 5, 6, 7, 8, 12, 60):
                for counters in (Counters([turn] * machine.deeds),
                                 Counters([turn] * machine.deeds, [3] * machine.deeds)):
                    wanted = tuple(order if turn == 0 else max(many for many in range(1, order + 1)
                                                               if order % many == 0 and turn % many == 0)
                                   for order in orders)
                    self.same(plain_rounds(machine, first, counters), wanted)
                    plain = Counters(wanted)
                    self.same(lots_of(machine, first, plain), lots_of(machine, first, counters))
                    self.same(tell_alike(machine, first, counters, plain), True)

    def test_told_ones(self):
        self.same(plain_rounds(HOURS, 0, Counters((6, 12))), (2, 4))
        self.same(plain_rounds(HOURS, 0, Counters((0, 3), (1, 2))), (4, 1))
        self.same(plain_rounds(SWAPS, 0, Counters((60, 0))), (1, 1))

    def test_needless_kinds(self):
        self.same([needless_kinds(ORDERS, 0), needless_kinds(HOURS, 0), needless_kinds(SWAPS, 0)], [(0,), (), (0, 1)])
        self.same(needless_kinds(Machine([[0]] * 4), 0), (0, 1, 2, 3))
        for machine, first in exchanging():
            orders = orders_of(machine, first)
            needless = needless_kinds(machine, first)
            self.same(needless, tuple(deed for deed in range(machine.deeds) if orders[deed] == 1))
            for kind in needless:
                for counters in rounds_for(machine.deeds):
                    for turn in (0, 1, 2, 3, 60):
                        rounds = list(counters.rounds)
                        rounds[kind] = turn
                        self.same(lots_of(machine, first, Counters(rounds)), lots_of(machine, first, counters))

    def test_tell_alike(self):
        self.same(tell_alike(HOURS, 0, FULL, Counters((4, 8))), True)
        self.same(tell_alike(HOURS, 0, FULL, Counters((1, 8))), False)
        self.same(tell_alike(HOURS, 0, Counters((1, 1)), Counters((3, 7), (6, 0))), True)
        for machine, first in exchanging()[::3]:
            several = rounds_for(machine.deeds) + [Counters([0] * machine.deeds)]
            for one, other in product(several, repeat=2):
                self.same(tell_alike(machine, first, one, other),
                          lots_of(machine, first, one) == lots_of(machine, first, other))

    def test_errors_in_their_order(self):
        unfit, more, two = Counters([2]), Counters([2, 2, 2]), Counters([2, 2])
        for value in any_values():
            if not (type(value) is int and 0 <= value < 3):
                self.keeps(NoState, "state", value, plain_rounds, FORGETS, value, unfit)
                self.keeps(NoState, "state", value, tell_alike, FORGETS, value, unfit, more)
        self.keeps(Refused, "at", unfit, plain_rounds, FORGETS, 0, unfit)
        self.keeps(Refused, "at", unfit, tell_alike, FORGETS, 0, unfit, more)
        self.keeps(Refused, "at", more, tell_alike, FORGETS, 0, two, more)
        self.keeps(Refused, "at", unfit, tell_alike, SWAPS, 0, two, unfit)
        self.refuses(Forgets, {"deed": 0, "one": 0, "other": 1}, plain_rounds, FORGETS, 0, two)
        self.refuses(Forgets, {"deed": 0, "one": 0, "other": 1}, tell_alike, FORGETS, 0, two, two)


class LotAfterTest(Promises):

    def test_rows_of_these_counts(self):
        for seed, (machine, first, counters) in enumerate(told_boards()):
            lots = lots_of(machine, first, counters)
            source = random.Random(seed)
            for _ in range(4):
                counts = [source.randrange(5) for _ in range(machine.deeds)]
                row = many_of(counts)
                source.shuffle(row)
                state = ends(machine, first, row)
                self.same(lot_after(machine, first, counters, counts), lots[lot_number(lots, state)])
                self.same(lot_after(machine, first, counters, tuple(counts)), lots[lot_number(lots, state)])

    def test_deeds_undone_and_great_counts(self):
        for seed, (machine, first, counters) in enumerate(told_boards()):
            source = random.Random(seed)
            for _ in range(3):
                counts = [source.randrange(-6, 7) for _ in range(machine.deeds)]
                after = lot_after(machine, first, counters, counts)
                undone = [-many for many in counts]
                for state in after:
                    # From a state behind these counts the others lead back, into the first state's own lot.
                    self.assertIn(first, lot_after(machine, state, counters, undone))
                great = [many + source.choice((-1, 1)) * 840 * 10 ** 30 for many in counts]
                self.same(lot_after(machine, first, counters, great), after)

    def test_told_ones(self):
        self.same(lot_after(HOURS, 3, FULL, (-1, 10 ** 20)), (1,))
        self.same(lot_after(HOURS, 3, FULL, [0, -3]), (0,))
        self.same(lot_after(WHEEL, 0, Counters([2]), (-1,)), (1, 3))
        self.same(lot_after(ORDERS, 1, FULL, (-10 ** 30, 10 ** 30 + 1)), (3, 4, 5))
        self.same(lot_after(PARTLY, 1, FULL, (5, -7)), (1, 2, 3))

    def test_errors_in_their_order(self):
        unfit = Counters([2])
        for value in any_values():
            if not (type(value) is int and 0 <= value < 3):
                self.keeps(NoState, "state", value, lot_after, FORGETS, value, unfit, None)
            if type(value) in (list, tuple) and len(value) == 2 and all(type(item) is int for item in value):
                self.same(lot_after(SWAPS, 0, FULL, value), (0, 1, 2))
            else:
                self.keeps(Refused, "at", value, lot_after, SWAPS, 0, FULL, value)
        self.keeps(Refused, "at", unfit, lot_after, FORGETS, 0, unfit, None)
        self.refuses(Forgets, {"deed": 0, "one": 0, "other": 1}, lot_after, FORGETS, 0, FULL, None)
        for counts in ([True, 0], (0, False), [0], (0, 0, 0), "00", None, ["0", 0], [[0], 0], {0: 0, 1: 0}):
            self.keeps(Refused, "at", counts, lot_after, HOURS, 0, FULL, counts)


def is_sum_of(rows, counts):
    """Whether counts are a sum of whole multiples of rows of which row k has nothing behind kind k."""
    left = list(counts)
    for kind in reversed(range(len(rows))):
        many, rest = divmod(left[kind], rows[kind][kind])
        if rest:
            return False
        left = [one - many * other for one, other in zip(left, rows[kind])]
    return not any(left)


class BasisTest(Promises):

    def test_its_form(self):
        for machine, first, counters in told_boards():
            rows = board_basis(machine, first, counters)
            self.assertEqual((type(rows), len(rows)), (tuple, machine.deeds))
            for kind, row in enumerate(rows):
                self.assertEqual((type(row), len(row)), (tuple, machine.deeds))
                self.assertTrue(all(type(many) is int for many in row))
                self.assertGreaterEqual(row[kind], 1)
                self.assertFalse(any(row[kind + 1:]))
                for lesser in range(kind):
                    self.assertIn(row[lesser], range(rows[lesser][lesser]))
            self.assertEqual(prod(rows[kind][kind] for kind in range(machine.deeds)),
                             len(lots_of(machine, first, counters)))

    def test_just_the_sums_of_its_rows_lead_the_lot_to_itself(self):
        for machine, first, counters in told_boards():
            rows = board_basis(machine, first, counters)
            span = range(-3, 9) if machine.deeds < 3 else range(-1, 4) if machine.deeds == 3 else range(3)
            home = lot_after(machine, first, counters, (0,) * machine.deeds)
            self.assertIn(first, home)
            for counts in product(span, repeat=machine.deeds):
                back = lot_after(machine, first, counters, counts) == home
                self.assertEqual(is_sum_of(rows, counts), back, (machine.tables, counters.rounds, counts))

    def test_told_ones(self):
        self.same(board_basis(HOURS, 0, FULL), ((4, 0), (3, 2)))
        self.same(board_basis(EIGHT, 3, Counters([6])), ((2,),))
        self.same(board_basis(SWAPS, 0, FULL), ((1, 0), (0, 1)))
        self.same(board_basis(CUBE, 0, Counters([0, 2, 1])), ((2, 0, 0), (0, 2, 0), (0, 0, 1)))

    def test_errors(self):
        unfit = Counters([2])
        for call in (board_basis, joint_counters, lambda *args: joint_holds(*args, None)):
            for value in any_values():
                if not (type(value) is int and 0 <= value < 3):
                    self.keeps(NoState, "state", value, call, FORGETS, value, unfit)
            self.keeps(Refused, "at", unfit, call, FORGETS, 0, unfit)
            self.refuses(Forgets, {"deed": 1, "one": 1, "other": 2}, call, FORGETS, 1, FULL)


def counts_to_lots(machine, first, counters):
    """For each lot some counts that lead the first state there."""
    found = {lot_after(machine, first, counters, [0] * machine.deeds): [0] * machine.deeds}
    for _ in range(7):
        for counts in list(found.values()):
            for kind in range(machine.deeds):
                more = [many + (kind == at) for at, many in enumerate(counts)]
                found.setdefault(lot_after(machine, first, counters, more), more)
    return list(found.values())


def joint_shows(joint, counts):
    return tuple(sum(weight * many for weight, many in zip(weights, counts)) % turn for weights, turn in joint)


def holds_in_a_box(machine, first, counters, joint):
    """Whether joint counters show the same exactly for counts to one lot, by as many counts as may matter."""
    lots = lots_of(machine, first, counters)
    by_showing, by_lot = {}, {}
    for counts in product(range(max(orders_of(machine, first)) + 1), repeat=machine.deeds):
        lot, showing = lot_number(lots, ends(machine, first, many_of(counts))), joint_shows(joint, counts)
        if by_showing.setdefault(showing, lot) != lot or by_lot.setdefault(lot, showing) != showing:
            return False
    return True


class JointTest(Promises):

    def test_their_rounds_and_what_they_show(self):
        for machine, first, counters in told_boards():
            joint = joint_counters(machine, first, counters)
            lots = lots_of(machine, first, counters)
            self.assertIs(type(joint), tuple)
            for one in joint:
                self.assertEqual((type(one), len(one)), (tuple, 2))
                weights, turn = one
                self.assertEqual((type(weights), len(weights), type(turn)), (tuple, machine.deeds, int))
                self.assertGreaterEqual(turn, 2)
                self.assertTrue(all(type(weight) is int and 0 <= weight < turn for weight in weights))
            turns = [turn for weights, turn in joint]
            self.assertTrue(all(more % few == 0 for few, more in zip(turns, turns[1:])))
            self.assertEqual(prod(turns), len(lots))
            self.same(joint_holds(machine, first, counters, joint), True)
            if len(lots) == 1:
                self.same(joint, ())
            if machine.deeds < 4:
                self.assertTrue(holds_in_a_box(machine, first, counters, joint))

    def test_they_are_as_few_as_can_be(self):
        for machine, first, counters in told_boards():
            needed = 0
            for number in (2, 3, 5, 7):
                # Any one joint counter tells at most so many lots apart to which counts lead that, done so often,
                # lead back.
                back = [counts for counts in counts_to_lots(machine, first, counters)
                        if first in lot_after(machine, first, counters, [number * many for many in counts])]
                needed = max(needed, [few for few in range(4) if number ** few >= len(back)][0])
            self.assertEqual(len(joint_counters(machine, first, counters)), needed, machine.tables)

    def test_told_rounds(self):
        for machine, counters, turns in (
            (HOURS, FULL, [8]), (CUBE, Counters([0] * 3), [2, 2, 2]), (CUBE, Counters([2, 1, 2]), [2, 2]),
            (SWAPS, FULL, []),
            (Machine([(1, 2, 3, 0, 5, 6, 7, 4), (4, 5, 6, 7, 0, 1, 2, 3)]), FULL, [2, 4]),
            (Machine([(3, 4, 5, 0, 1, 2), (1, 2, 0, 4, 5, 3)]), FULL, [6]), (EIGHT, Counters([12]), [4]),
            (Machine([(3, 4, 5, 0, 1, 2), (1, 2, 0, 4, 5, 3)]), Counters([1, 0]), [3]), (TWISTED, FULL, [2, 2]),
        ):
            self.same([turn for weights, turn in joint_counters(machine, 0, counters)], turns)

    def test_others_that_are_right(self):
        for value in (
            [([2, 1], 8)], (((2, 1), 8),), [[(6, 3), 8]], [([2, 1], 8), ([2, 1], 8)], [([4, 2], 16)],
            [([0, 0], 1), ([2, 1], 8)],
            [([2, 1], 8), ([0, 1], 2), ([2, 1], 4)], [([2 * 10 ** 8, 10 ** 8], 8 * 10 ** 8)], [([2, 1], 8)] * 40,
            [([2 * 125 * 10 ** 6, 125 * 10 ** 6], 10 ** 9)], [([2, 5], 8)],
        ):
            wanted = holds_in_a_box(HOURS, 0, FULL, value)
            self.same(joint_holds(HOURS, 0, FULL, value), wanted, value)
        self.same(joint_holds(HOURS, 0, FULL, [([2 * 10 ** 8, 10 ** 8], 8 * 10 ** 8)] * 40), True)
        self.same(joint_holds(HOURS, 0, FULL, [([4, 2], 16)]), True)
        self.same(joint_holds(HOURS, 0, FULL, [([6, 3], 8), ((0, 0), 7)]), True)
        self.same(joint_holds(CUBE, 0, Counters([0] * 3), [((1, 1, 0), 2), ((0, 1, 1), 2), ([1, 1, 1], 2)]), True)
        self.same(joint_holds(CUBE, 0, Counters([0] * 3), [((1, 1, 0), 2), ((0, 1, 1), 2), ([1, 0, 1], 2)]), False)
        self.same(joint_holds(SWAPS, 0, FULL, ()), True)
        self.same(joint_holds(SWAPS, 0, FULL, [([0, 0], 5)] * 3), True)
        self.same(joint_holds(SWAPS, 0, FULL, [([0, 1], 5)]), False)

    def test_what_is_no_joint_counter(self):
        for value in (
            [([2, 1], 0)], [([0, 0], 0)], [([2, 8], 8)], [([2, -7], 8)], [([2, True], 8)], [([2, 1], True)],
            [([2], 8)], [2, 8],
            [([2, 1, 0], 8)], [([2, 1], 8, 0)], [([2, 1],)], ([2, 1], 8), [([2, 1], 8), None], None, "", "21", 8, {},
            [()],
            [([2, 1], "8")], [(["2", 1], 8)], [("21", 8)], [([2, 1], -8)], [([2, None], 8)], [((2, 1), (8,))],
            [([2, 1], 8), ()],
        ):
            self.same(joint_holds(HOURS, 0, FULL, value), False, value)
        self.same(joint_holds(SWAPS, 0, FULL, [([0, False], 5)]), False)
        self.same(joint_holds(SWAPS, 0, FULL, [([0, 0], True)]), False)

    def test_bent(self):
        for machine, first, counters in ((HOURS, 0, FULL), (SQUARE, 1, FULL), (WHEEL, 0, Counters([2])),
                                         (ORDERS, 0, FULL)):
            joint = joint_counters(machine, first, counters)
            for value in bent(joint):
                right = type(value) is tuple and all(
                    type(one) is tuple and len(one) == 2 and type(one[0]) is tuple and len(one[0]) == machine.deeds
                    and type(one[1]) is int and one[1] >= 1
                    and all(type(weight) is int and 0 <= weight < one[1] for weight in one[0]) for one in value)
                right = right and holds_in_a_box(machine, first, counters, value)
                self.same(joint_holds(machine, first, counters, value), right, value)

    def test_all_small_ones(self):
        for machine in (SQUARE, Machine([(1, 0, 3, 2), (2, 3, 0, 1)])):
            single = [((one, other), turn) for turn in range(1, 5) for one in range(turn) for other in range(turn)]
            for value in [[one] for one in single] + list(product(single, repeat=2)):
                self.same(joint_holds(machine, 0, FULL, value), holds_in_a_box(machine, 0, FULL, value))

    def test_any_value(self):
        for value in any_values():
            for machine, counters in ((HOURS, FULL), (CUBE, Counters([2, 2, 2])), (Machine([[0]]), Counters([1]))):
                self.assertIs(type(joint_holds(machine, 0, counters, value)), bool)
            self.same(joint_holds(HOURS, 0, FULL, value), False)
            self.same(joint_holds(SWAPS, 0, FULL, value), type(value) in (list, tuple) and len(value) == 0)

    def test_what_plain_rounds_cost_above(self):
        for machine, first, counters in told_boards():
            cost = prod(plain_rounds(machine, first, counters))
            many = len(lots_of(machine, first, counters))
            self.assertEqual(cost % many, 0)
            self.assertEqual(gcd(cost, many), many)


if __name__ == "__main__":
    unittest.main()
