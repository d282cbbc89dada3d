"""Points [12], [13], [14] and [15]: folds, open lots, and papers of them. Those of [11] are in test_settling.py."""

import random
import unittest
from itertools import permutations, product

from onewitness.counters import Counters, check_showing, shown
from onewitness.errors import BadShowing, Forgets, NoState, Refused, TooGreat, WitnessError
from onewitness.lots import (
    fold_size, fold_values, lot_rows, lot_shown, lots_of, needed_values, open_lot, open_lots, rows_hold, told_state,
    values_hold,
)
from onewitness.machines import Machine, led, reached
from tests.helper import (
    CUBE, EIGHT, FORGETS, HOURS, ORDERS, PARTLY, SWAPS, TURN, WHEEL, Promises, any_rows, any_values, bent, counted,
    ends, exchanging, loose_tables, points_by_length, rounds_for,
)


def counters_for(kinds):
    """Counters of so many kinds: by rounds, in full, and with rests."""
    rested = Counters((2, 0, 1, 1)[:kinds], (1, 2, 0, 3)[:kinds])
    return rounds_for(kinds) + [Counters((0,) * kinds), Counters((0, 2, 0, 3)[:kinds]), rested]


def forgetting():
    """Pairs of a machine of any tables and a first state."""
    return [(loose_tables(seed, 2 + seed % 5, 1 + seed % 3), seed % 2) for seed in range(30)]


def finite_counters(kinds):
    """Counters of so many kinds, none in full, with few showings."""
    rests = (Counters((1,) * kinds, (1,) * kinds), Counters((2, 1, 2, 1)[:kinds], (0, 2, 1, 0)[:kinds]))
    return rounds_for(kinds)[:4] + list(rests)


class FoldTest(Promises):

    def test_size_and_values_are_those_of_the_lots(self):
        for machine, first in exchanging():
            for counters in counters_for(machine.deeds):
                lots = lots_of(machine, first, counters)
                self.same(fold_size(machine, first, counters), len(lots[0]))
                values = [None] * machine.states
                for lot in lots:
                    for state in lot:
                        values[state] = len([other for other in lot if other < state])
                self.same(fold_values(machine, first, counters), tuple(values))

    def test_states_that_do_not_come_have_no_value(self):
        self.same(fold_values(TURN, 3, Counters([2, 2])), (None, None, None, 0))
        self.same(fold_values(PARTLY, 1, Counters([0, 0])), (None, 0, 1, 2, None, None))
        self.same(fold_values(WHEEL, 2, Counters([2])), (0, 0, 1, 1))

    def test_rows_lead_into_the_lot_shown_in_whatever_order(self):
        for seed, (machine, first) in enumerate(exchanging()):
            for counters in counters_for(machine.deeds):
                lots, values = lots_of(machine, first, counters), fold_values(machine, first, counters)
                for row in any_rows(seed, machine.deeds, 6, longest=20):
                    other = random.Random(len(row)).sample(row, len(row))
                    for order in (row, sorted(row), sorted(row, reverse=True), other):
                        state, showing = led(machine, first, order), shown(counters, order)
                        lot = lot_shown(machine, first, counters, showing)
                        self.assertIn(lot, lots)
                        self.assertIn(state, lot)
                        self.same(told_state(machine, first, counters, list(showing), values[state]), state)

    def test_lot_shown_does_each_deed_as_often_as_the_showing_says(self):
        for machine, first in exchanging():
            for counters in counters_for(machine.deeds):
                lots = lots_of(machine, first, counters)
                for showing in product((0, 1, 2), repeat=machine.deeds):
                    try:
                        check_showing(counters, showing)
                    except BadShowing:
                        continue
                    row = [kind for kind, many in enumerate(showing) for _ in range(many)]
                    wanted = [lot for lot in lots if led(machine, first, row) in lot]
                    self.same([lot_shown(machine, first, counters, showing)], wanted)
                    for value, state in enumerate(wanted[0]):
                        self.same(told_state(machine, first, counters, showing, value), state)

    def test_great_numbers(self):
        full = Counters([0, 0])
        for many in (10 ** 18, 10 ** 18 - 1, 10 ** 17 + 3, 8 * 10 ** 17):
            for first in range(8):
                state = (first + 2 * many + many - 5) % 8
                self.same(lot_shown(HOURS, first, full, (many, many - 5)), (state,))
                self.same(told_state(HOURS, first, full, [many, many - 5], 0), state)
            state = many % 4
            self.same(lot_shown(WHEEL, 0, Counters([0], [6]), (many,)), (state,))
            self.same(lot_shown(ORDERS, 0, full, [many, many]), ((0, 1, 2), (3, 4, 5))[many % 2])

    def test_bad_showings_come_behind_the_other_errors(self):
        two = Counters([2, 2])
        for showing, at in (((2, 0), 0), ([0, 2], 1), ((0,), -1), ((0, 0, 0), -1), (None, -1), ([True, 0], 0),
                            ("00", -1)):
            for call in (lot_shown, lambda *args: told_state(*args, 9)):
                self.refuses(BadShowing, {"at": at}, call, SWAPS, 0, two, showing)
                self.refuses(NoState, {"state": 3}, call, SWAPS, 3, two, showing)
                self.keeps(Refused, "at", WHEEL_TWO, call, SWAPS, 0, WHEEL_TWO, showing)
                self.refuses(Forgets, {"deed": 0, "one": 0, "other": 1}, call, FORGETS, 0, two, showing)
        for value in any_values():
            try:
                check_showing(two, value)
            except BadShowing as error:
                self.refuses(BadShowing, {"at": error.at}, lot_shown, SWAPS, 0, two, value)
                self.refuses(BadShowing, {"at": error.at}, told_state, SWAPS, 0, two, value, None)

    def test_refused_values(self):
        for value in any_values():
            if type(value) is int and 0 <= value < 3:
                self.same(told_state(SWAPS, 0, Counters([2, 2]), (0, 0), value), value)
            else:
                self.keeps(Refused, "at", value, told_state, SWAPS, 0, Counters([2, 2]), (0, 0), value)
        for value in (2, -1, True, False, None, "0", (0,)):
            self.keeps(Refused, "at", value, told_state, WHEEL, 0, WHEEL_TWO, (1,), value)
        self.same(told_state(WHEEL, 0, WHEEL_TWO, (1,), 1), 3)

    def test_errors_in_their_order(self):
        calls = (fold_size, fold_values, lambda *args: rows_hold(*args, None), lambda *args: values_hold(*args, None),
                 lambda *args: lot_rows(*args, most=1), lambda *args: lot_shown(*args, None),
                 lambda *args: told_state(*args, None, None))
        unfit = Counters([2])
        for call in calls:
            for value in any_values():
                if not (type(value) is int and 0 <= value < 3):
                    self.keeps(NoState, "state", value, call, FORGETS, value, unfit)
            self.keeps(Refused, "at", unfit, call, FORGETS, 0, unfit)
            self.refuses(Forgets, {"deed": 1, "one": 1, "other": 2}, call, FORGETS, 1, Counters([0, 2], [1, 1]))


WHEEL_TWO = Counters([2])


class OpenLotsTest(Promises):

    def check_lots(self, machine, first, counters):
        points = points_by_length([machine], [first], counters)
        states = {}
        for (state,), showing in points:
            states.setdefault(showing, []).append(state)
        wanted = tuple((showing, tuple(sorted(states[showing]))) for showing in sorted(states))
        self.same(self.is_search(len(points), open_lots, machine, first, counters), wanted)
        self.same(self.is_search(len(points), needed_values, machine, first, counters),
                  max(len(lot) for showing, lot in wanted))
        for showing, lot in wanted[::3]:
            self.same(self.is_search(len(points), open_lot, machine, first, counters, list(showing)), lot)
        return wanted

    def test_machines_that_exchange(self):
        for machine, first in exchanging():
            for counters in finite_counters(machine.deeds):
                wanted = self.check_lots(machine, first, counters)
                lots = lots_of(machine, first, counters)
                self.same(needed_values(machine, first, counters, most=20000), len(lots[0]))
                for showing, states in wanted:
                    around = lot_shown(machine, first, counters, showing)
                    self.assertLessEqual(set(states), set(around))
                    if not any(counters.rests):
                        self.same(states, around)

    def test_machines_that_forget(self):
        for machine, first in forgetting() + [(FORGETS, 0), (FORGETS, 1), (PARTLY, 5), (PARTLY, 0)]:
            for counters in finite_counters(machine.deeds):
                self.check_lots(machine, first, counters)

    def test_with_rests_lots_may_be_parts(self):
        self.same(open_lots(WHEEL, 0, Counters([2], [1]), most=5), (((0,), (0,)), ((1,), (1, 3)), ((2,), (0, 2))))
        self.same(open_lots(WHEEL, 3, Counters([1], [3]), most=8),
                  (((0,), (3,)), ((1,), (0,)), ((2,), (1,)), ((3,), (0, 1, 2, 3))))

    def test_most_is_just_what_is_needed(self):
        for machine, counters, pairs in ((WHEEL, Counters([2]), 4), (WHEEL, Counters([3]), 12),
                                         (SWAPS, Counters([2, 3]), 18),
                                         (WHEEL, Counters([2], [1]), 5)):
            self.assertEqual(len(points_by_length([machine], [0], counters)), pairs)
            for call in (open_lots, needed_values):
                call(machine, 0, counters, most=pairs)
                self.refuses(TooGreat, {"most": pairs - 1}, call, machine, 0, counters, most=pairs - 1)
        self.refuses(TooGreat, {"most": 20000}, open_lots, CUBE, 0, Counters([60, 60, 60]), most=20000)

    def test_kinds_in_full(self):
        machines = exchanging()[:12] + forgetting()[:12] + [(FORGETS, 0)]
        for machine, first in machines:
            for counters in (Counters((0,) * machine.deeds), Counters((0, 2, 0, 3)[:machine.deeds]),
                             Counters((2, 0, 1, 0)[:machine.deeds], (1, 2, 0, 3)[:machine.deeds])):
                for seed, row in enumerate(any_rows(machine.states, machine.deeds, 3, longest=6)):
                    showing = counted(counters, row)
                    points = points_by_length([machine], [first], counters, bounds=showing)
                    wanted = sorted(state for (state,), seen in points if seen == showing)
                    self.same(self.is_search(len(points), open_lot, machine, first, counters, showing), tuple(wanted))

    def test_kinds_in_full_against_all_rows_of_these_numbers(self):
        full = Counters([0, 0])
        for machine in (SWAPS, TURN, FORGETS, ORDERS, PARTLY, HOURS):
            for many, more in product(range(4), repeat=2):
                rows = set(permutations((0,) * many + (1,) * more))
                wanted = tuple(sorted({led(machine, 0, row) for row in rows}))
                self.same(open_lot(machine, 0, full, (many, more), most=8 * 16), wanted)

    def test_a_number_of_40_in_full(self):
        self.same(open_lot(EIGHT, 3, Counters([0]), [40], most=41), (3,))
        self.same(open_lot(SWAPS, 0, Counters([0, 0]), (40, 40), most=3 * 41 * 41), (0, 1, 2))
        self.same(open_lot(SWAPS, 0, Counters([0, 0]), (40, 0), most=41), (0,))
        self.refuses(TooGreat, {"most": 40}, open_lot, EIGHT, 3, Counters([0]), (40,), most=40)

    def test_a_rest_and_a_round_1(self):
        self.same(open_lot(WHEEL, 0, Counters([2], [1]), (0,), most=50), (0,))
        self.same(open_lot(FORGETS, 0, Counters([1, 1]), (0, 0), most=3), (0, 1, 2))

    def test_errors_in_their_order(self):
        unfit, full = Counters([0]), Counters([0, 2])
        for value in any_values():
            if not (type(value) is int and 0 <= value < 3):
                for call in (open_lots, needed_values):
                    self.keeps(NoState, "state", value, call, FORGETS, value, unfit, most=1)
                self.keeps(NoState, "state", value, open_lot, FORGETS, value, unfit, None, most=1)
        for call in (open_lots, needed_values):
            for counters in (unfit, Counters([2]), Counters([2, 2, 2]), full, Counters([0, 0])):
                self.keeps(Refused, "at", counters, call, FORGETS, 0, counters, most=1)
        self.keeps(Refused, "at", unfit, open_lot, FORGETS, 0, unfit, None, most=1)
        for showing, at in ((None, -1), ((0,), -1), ((0, 2), 1), ((-1, 5), 0), ((True, 0), 0), ([5, None], 1)):
            self.refuses(BadShowing, {"at": at}, open_lot, FORGETS, 0, full, showing, most=1)
        for value in any_values():
            try:
                wanted = check_showing(full, value)
            except BadShowing as error:
                self.refuses(BadShowing, {"at": error.at}, open_lot, FORGETS, 0, full, value, most=1)
            else:
                if sum(wanted) < 9:
                    self.assertIn(len(open_lot(FORGETS, 0, full, value, most=90)), (1, 2, 3))


def shortest_bound(machine, first, counters, fold):
    """The least length such that rows not longer lead to so many states with one showing; how many points they find."""
    length = 0
    while True:
        points = points_by_length([machine], [first], counters, longest=length)
        showings = [showing for state, showing in points]
        if max(showings.count(showing) for showing in set(showings)) >= fold:
            return length, len(points)
        length += 1


class RowsTest(Promises):

    def check_rows(self, machine, first, counters, rows):
        self.assertIs(type(rows), tuple)
        self.assertEqual(len(rows), fold_size(machine, first, counters))
        self.assertTrue(all(type(row) is tuple and all(type(deed) is int for deed in row) for row in rows))
        self.assertEqual(len({counted(counters, row) for row in rows}), 1)
        self.assertEqual(len({ends(machine, first, row) for row in rows}), len(rows))
        self.assertIs(rows_hold(machine, first, counters, rows), True)

    def test_rows_and_how_far_they_are_searched(self):
        for machine, first in exchanging():
            for counters in counters_for(machine.deeds) + [Counters((1,) * machine.deeds, (2,) * machine.deeds)]:
                fold = fold_size(machine, first, counters)
                length, needed = shortest_bound(machine, first, counters, fold)
                rows = self.is_search(needed, lot_rows, machine, first, counters)
                self.check_rows(machine, first, counters, rows)

    def test_kinds_in_full(self):
        for machine in (SWAPS, ORDERS, CUBE, HOURS):
            full = Counters((0,) * machine.deeds)
            rows = lot_rows(machine, 0, full, most=20000)
            self.check_rows(machine, 0, full, rows)
            self.assertEqual(len({tuple(sorted(row)) for row in rows}), 1)

    def test_rows_that_are_long(self):
        for counters, needed in ((Counters([59]), 414), (Counters([59], [6]), 420)):
            rows = self.is_search(needed, lot_rows, EIGHT, 0, counters)
            self.check_rows(EIGHT, 0, counters, rows)
            self.assertGreater(max(len(row) for row in rows), 400)
            self.refuses(TooGreat, {"most": 300}, lot_rows, EIGHT, 0, counters, most=300)

    def test_one_row_where_counters_alone_tell(self):
        for machine, first, counters in ((WHEEL, 1, Counters([0])), (HOURS, 0, Counters([4, 8])),
                                         (TURN, 3, Counters([1, 1]))):
            rows = lot_rows(machine, first, counters, most=1)
            self.check_rows(machine, first, counters, rows)
            self.assertEqual(len(rows), 1)

    def test_other_rows_that_hold(self):
        self.same(rows_hold(SWAPS, 0, Counters([2, 2]), ((0, 1, 0, 1), (), [1, 0, 1, 0])), True)
        self.same(rows_hold(SWAPS, 0, Counters([2, 2]), [[1, 0, 1, 0], [0, 1, 0, 1], ()]), True)
        self.same(rows_hold(WHEEL, 0, WHEEL_TWO, [(), (0, 0)]), True)
        self.same(rows_hold(WHEEL, 0, WHEEL_TWO, ([0] * 3000, (0,) * 2998)), True)
        self.same(rows_hold(WHEEL, 0, WHEEL_TWO, ([0] * 3001, (0,) * 2999)), True)
        self.same(rows_hold(WHEEL, 0, Counters([0]), [[0] * 3000]), True)
        self.same(rows_hold(EIGHT, 0, Counters([1], [6]), [[0] * (many + 500) for many in range(8)]), True)

    def test_rows_that_do_not_hold(self):
        for rows in (
            (), [()], [(), (0,)], [(), ()], [(), (0, 0, 0, 0)], [(), (0, 0), (0, 0, 0, 0)], [(), (0, 1)], [(), (0, -1)],
            [(), (0, True)], [(), (False, 0)], [(), "00"], [(), None], "", None, 2, {(): (0, 0)}, ((), (0, 0), ()),
            ([0] * 3000, (0,) * 2999), ([0] * 3000, (0,) * 2996), [(), [(0, 0)]], [(), ("0", "0")], [0, (0, 0)],
        ):
            self.same(rows_hold(WHEEL, 0, WHEEL_TWO, rows), False, rows)
        self.same(rows_hold(EIGHT, 0, Counters([1], [6]), [[0] * many for many in range(8)]), False)
        self.same(rows_hold(SWAPS, 0, Counters([0, 0]), ((0, 1, 0, 1), (), [1, 0, 1, 0])), False)

    def test_bent_rows(self):
        for machine, first, counters in ((SWAPS, 0, Counters([2, 2])), (SWAPS, 1, Counters([0, 0])),
                                         (WHEEL, 2, WHEEL_TWO),
                                         (ORDERS, 3, Counters([2, 1])), (PARTLY, 1, Counters([0, 1], [2, 1]))):
            rows = lot_rows(machine, first, counters, most=2000)
            for kind in (tuple, list):
                for value in bent(kind(kind(row) for row in rows)):
                    right = type(value) in (list, tuple) and len(value) == len(rows) and all(
                        type(row) in (list, tuple)
                        and all(type(deed) is int and 0 <= deed < machine.deeds for deed in row) for row in value)
                    right = right and len({counted(counters, row) for row in value}) == 1
                    right = right and len({ends(machine, first, row) for row in value}) == len(rows)
                    self.same(rows_hold(machine, first, counters, value), right, value)

    def test_any_value(self):
        for value in any_values():
            for machine, counters in ((SWAPS, Counters([2, 2])), (WHEEL, WHEEL_TWO), (Machine([[0]]), Counters([0]))):
                self.assertIs(type(rows_hold(machine, 0, counters, value)), bool)
                self.assertIs(type(values_hold(machine, 0, counters, value)), bool)
            self.same(rows_hold(SWAPS, 0, Counters([2, 2]), value), False)
            self.same(values_hold(Machine([[0]]), 0, Counters([2]), value), value in ([0], (0,))
                      and type(value[0]) is int)
        self.same(rows_hold(Machine([[0]]), 0, Counters([0]), [[0] * 5000]), True)


class ValuesTest(Promises):

    def test_the_told_values_hold(self):
        for machine, first in exchanging():
            for counters in counters_for(machine.deeds):
                values = fold_values(machine, first, counters)
                self.same(values_hold(machine, first, counters, values), True)
                self.same(values_hold(machine, first, counters, list(values)), True)

    def test_all_values_of_small_machines(self):
        items = (0, 1, 2, None, True)
        for machine, first, counters in ((WHEEL, 0, WHEEL_TWO), (WHEEL, 0, Counters([0])), (TURN, 0, Counters([1, 1])),
                                         (TURN, 3, Counters([1, 1]))):
            lots, come = lots_of(machine, first, counters), reached(machine, first)
            for values in product(items, repeat=machine.states):
                right = all(type(values[state]) is int and values[state] < len(lots[0]) if state in come
                            else values[state] is None for state in range(machine.states))
                right = right and all(values[one] != values[other] for lot in lots for one in lot for other in lot
                                      if one < other)
                self.same(values_hold(machine, first, counters, list(values)), right, values)

    def test_other_values(self):
        self.same(values_hold(WHEEL, 0, WHEEL_TWO, [1, 0, 0, 1]), True)
        for values in ([0, 0, 0, 1], [0, 0, 1], [0, 0, 1, 1, 0], [0, 0, 1, 2], [0, 0, 1, -1], [0, 0, 1, None], None,
                       "0011",
                       [0, 0, 1, True], [0, False, 1, 1], [[0], 0, 1, 1], ([0, 0, 1, 1],), (),
                       {0: 0, 1: 0, 2: 1, 3: 1}):
            self.same(values_hold(WHEEL, 0, WHEEL_TWO, values), False)
        self.same(values_hold(PARTLY, 1, Counters([0, 0]), (None, 2, 0, 1, None, None)), True)
        self.same(values_hold(PARTLY, 1, Counters([0, 0]), (None, 2, 0, 1, None, 0)), False)
        self.same(values_hold(PARTLY, 1, Counters([0, 0]), (0, 2, 0, 1, None, None)), False)
        self.same(values_hold(SWAPS, 0, Counters([0, 0]), [0, 1, 10 ** 30]), False)

    def test_bent_values(self):
        values = fold_values(SWAPS, 0, Counters([0, 0]))
        for value in bent(values):
            right = type(value) is tuple and len(value) == 3 and all(type(item) is int for item in value)
            self.same(values_hold(SWAPS, 0, Counters([0, 0]), value), right and sorted(value) == [0, 1, 2])


class SoTest(Promises):

    def test_one_value_fewer_is_not_enough(self):
        for machine, first, counters in ((SWAPS, 0, Counters([0, 0])), (WHEEL, 0, WHEEL_TWO),
                                         (ORDERS, 0, Counters([3, 2])),
                                         (WHEEL, 1, Counters([1])), (SWAPS, 2, Counters([2, 3], [1, 0]))):
            fold = fold_size(machine, first, counters)
            rows = lot_rows(machine, first, counters, most=2000)
            for by_row in product(range(fold - 1), repeat=len(rows)):
                shared = [(one, other) for at, one in enumerate(rows) for to, other in enumerate(rows)
                          if at < to and by_row[at] == by_row[to]]
                self.assertTrue(shared)
                for one, other in shared:
                    self.assertEqual(counted(counters, one), counted(counters, other))
                    self.assertNotEqual(ends(machine, first, one), ends(machine, first, other))

    def test_showings_do_not_hang_on_the_order(self):
        for counters in (Counters([2, 3]), Counters([0, 0]), Counters([1, 2], [2, 1]), Counters([0, 3], [1, 6])):
            for row in any_rows(3, 2, 12, longest=6):
                self.assertEqual(len({shown(counters, order) for order in permutations(row)}), 1)

    def test_only_told_errors(self):
        for value in any_values():
            for call in (lot_shown, rows_hold, values_hold, lambda *args: told_state(*args, value),
                         lambda *args: open_lot(*args, most=50)):
                try:
                    call(SWAPS, 0, Counters([2, 2]), value)
                except WitnessError as error:
                    self.assertIn(type(error), (BadShowing, Refused))


if __name__ == "__main__":
    unittest.main()
