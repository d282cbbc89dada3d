"""Points [21], [22], [23] and [24]: witnesses, whether they tell, and rows that they do not tell apart."""

import unittest
from itertools import permutations, product

from onewitness.counters import Counters, check_showing
from onewitness.errors import BadShowing, NoState, Refused, TooGreat
from onewitness.lots import fold_size, open_lot
from onewitness.machines import Machine, forgotten, led
from onewitness.witnesses import beaten_holds, beaten_rows, is_telling, states_left
from tests.helper import (
    EIGHT, FORGETS, HOURS, ORDERS, PAIRS, PARTLY, SQUARE, SWAPS, TURN, TWISTED, WHEEL, Promises, any_rows, any_values,
    bent, counted, ends, in_full_as_rounds, loose_tables, points_by_length, turned,
)

THIRD = Machine([(1, 2, 0)])
NONE = Machine([(0,), (0,)])


def walks(machine, first, counters, witness, start, **limits):
    return points_by_length([machine, witness], [first, start], counters, **limits)


def tells_by_walk(machine, first, counters, witness, start):
    """Whether no two points have one showing and one standing, but unlike states."""
    states = {}
    for (state, standing), showing in walks(machine, first, counters, witness, start):
        states.setdefault((standing, showing), set()).add(state)
    return max(len(found) for found in states.values()) == 1


def exchange_together(machine, first, witness, start):
    """Whether no deed leads two unlike pairs that come to one, seen from the pairs themselves."""
    pairs = [states for states, showing in walks(machine, first, Counters([1] * machine.deeds), witness, start)]
    led_on = [(deed, machine.tables[deed][state], witness.tables[deed][standing])
              for deed in range(machine.deeds) for state, standing in pairs]
    return len(set(led_on)) == len(led_on)


def together():
    """Machines that exchange, with witnesses that do."""
    found = [
        (WHEEL, 0, WHEEL, 0), (WHEEL, 1, THIRD, 2), (WHEEL, 0, Machine([(1, 0)]), 1), (WHEEL, 3, EIGHT, 5),
        (EIGHT, 0, WHEEL, 0), (SWAPS, 0, SWAPS, 1), (SWAPS, 0, NONE, 0), (HOURS, 2, Machine([(0, 1), (1, 0)]), 0),
        (SWAPS, 1, Machine([(1, 0), (1, 0)]), 0), (ORDERS, 0, ORDERS, 3), (SQUARE, 0, Machine([(0, 1), (1, 0)]), 0),
        (PARTLY, 1, SWAPS, 2), (SWAPS, 2, PARTLY, 3), (TURN, 3, SWAPS, 0), (TWISTED, 0, SQUARE, 1),
        (PAIRS, 4, SWAPS, 0),
    ]
    for seed in range(40):
        deeds = 1 + seed % 3
        found.append((turned(seed, 2 + seed % 5, deeds), seed % 2, turned(seed + 100, 1 + seed % 4, deeds), 0))
    return found


def apart():
    """Machines and witnesses of which one at least forgets, mostly."""
    found = [(FORGETS, 0, NONE, 0), (WHEEL, 0, Machine([(1, 1)]), 0), (FORGETS, 1, FORGETS, 0), (PARTLY, 5, SWAPS, 1),
             (SWAPS, 0, PARTLY, 5), (WHEEL, 2, Machine([(1, 2, 3, 4, 4)]), 0), (FORGETS, 0, SWAPS, 0)]
    for seed in range(40):
        deeds = 1 + seed % 3
        machine, witness = loose_tables(seed, 2 + seed % 3, deeds), loose_tables(seed + 50, 1 + seed % 4, deeds)
        if seed % 4 == 0:
            machine = turned(seed, 2 + seed % 4, deeds)
        found.append((machine, seed % 2, witness, 0))
    return found


def few_counters(kinds):
    return [Counters((1,) * kinds), Counters((2,) * kinds), Counters((2, 3, 1)[:kinds]), Counters((4, 1, 2)[:kinds]),
            Counters((2, 1, 1)[:kinds], (1, 0, 2)[:kinds]), Counters((1, 3, 2)[:kinds], (2, 1, 0)[:kinds])]


class TellingTest(Promises):

    def test_what_exchanges_together_is_told_without_a_search(self):
        for machine, first, witness, start in together():
            self.assertTrue(exchange_together(machine, first, witness, start))
            for counters in few_counters(machine.deeds):
                wanted = tells_by_walk(machine, first, counters, witness, start)
                self.same(is_telling(machine, first, counters, witness, start, most=1), wanted,
                          (machine.tables, witness.tables, counters.rounds))

    def test_kinds_in_full(self):
        for machine, first, witness, start in together():
            for rounds, rests in (((0, 0, 0), ()), ((0, 2, 0), ()), ((3, 0, 1), (1, 2, 0)), ((0, 1, 2), (6, 6, 6))):
                counters = Counters(rounds[:machine.deeds], rests[:machine.deeds])
                told = in_full_as_rounds(Counters(counters.rounds), (machine, first), (witness, start))
                if max(told.rounds) ** machine.deeds <= 400:
                    wanted = tells_by_walk(machine, first, told, witness, start)
                    self.same(is_telling(machine, first, counters, witness, start, most=1), wanted,
                              (machine.tables, witness.tables, rounds))

    def test_rests_make_no_difference_to_what_exchanges_together(self):
        for machine, first, witness, start in together():
            for counters in few_counters(machine.deeds):
                rested = Counters(counters.rounds, (3, 6, 1)[:machine.deeds])
                self.same(is_telling(machine, first, rested, witness, start, most=1),
                          is_telling(machine, first, Counters(counters.rounds), witness, start, most=1))

    def test_by_lots_of_pairs(self):
        for machine, first, witness, start in together():
            tables = self.pair_tables(machine, first, witness, start)
            if len(tables[0]) > 8:
                continue
            for counters in few_counters(machine.deeds):
                pairs = self.pairs_that_come(machine, first, witness, start)
                lots = [sorted(open_lot(Machine(tables), 0, Counters(counters.rounds), showing, most=9000))
                        for showing in product(*[range(turn) for turn in counters.rounds])]
                alone = all(len({pairs[at][1] for at in lot}) == len(lot) for lot in lots)
                self.same(is_telling(machine, first, counters, witness, start, most=1), alone)

    def pairs_that_come(self, machine, first, witness, start):
        return [states for states, showing in walks(machine, first, Counters([1] * machine.deeds), witness, start)]

    def pair_tables(self, machine, first, witness, start):
        pairs = self.pairs_that_come(machine, first, witness, start)
        return [[pairs.index((one[state], other[standing])) for state, standing in pairs]
                for one, other in zip(machine.tables, witness.tables)]

    def test_what_does_not_exchange_together_is_searched(self):
        searched = 0
        for machine, first, witness, start in apart():
            for counters in few_counters(machine.deeds):
                wanted = tells_by_walk(machine, first, counters, witness, start)
                if exchange_together(machine, first, witness, start):
                    self.same(is_telling(machine, first, counters, witness, start, most=1), wanted)
                else:
                    searched += 1
                    needed = len(walks(machine, first, counters, witness, start))
                    self.same(self.is_search(needed, is_telling, machine, first, counters, witness, start), wanted)
        self.assertGreater(searched, 100)

    def test_one_less_than_needed(self):
        done_once = Machine([(1, 1)])
        counters = Counters([4])
        triples = len(walks(WHEEL, 0, counters, done_once, 0))
        self.same([triples, is_telling(WHEEL, 0, counters, done_once, most=triples)], [5, True])
        self.refuses(TooGreat, {"most": 4}, is_telling, WHEEL, 0, counters, done_once, most=4)
        self.refuses(TooGreat, {"most": 4}, beaten_rows, WHEEL, 0, counters, done_once, most=4)

    def test_forgetting_machines_may_exchange_together_with_a_witness(self):
        machine, witness = Machine([(0, 0), (1, 1)]), Machine([(0, 0), (1, 1)])
        self.assertIsNotNone(forgotten(machine, 0))
        self.assertFalse(exchange_together(machine, 0, witness, 0))
        self.same(is_telling(machine, 0, Counters([1, 1]), witness, most=2), True)
        self.keeps(Refused, "at", ZEROS, is_telling, machine, 0, ZEROS, witness, most=2)
        only_behind = Machine([(1, 0, 0)])
        self.assertTrue(exchange_together(only_behind, 0, only_behind, 1))
        self.same(is_telling(only_behind, 0, Counters([0]), only_behind, 1, most=1), True)

    def test_told_ones(self):
        self.same(is_telling(WHEEL, 0, Counters([2]), THIRD, most=100), False)
        self.same(is_telling(WHEEL, 0, Counters([4]), THIRD, most=100), True)
        self.same(is_telling(WHEEL, 0, Counters([2]), Machine([(1, 1)]), most=100), False)
        self.same(is_telling(SWAPS, 0, ZEROS, SWAPS, most=1), True)
        self.same(is_telling(SWAPS, 0, ZEROS, SWAPS, 2, most=1), True)
        self.same(is_telling(SWAPS, 0, ZEROS, NONE, most=1), False)
        self.same(is_telling(machine=SWAPS, first=0, counters=ZEROS, witness=SWAPS, start=1, most=1), True)
        self.same(is_telling(WHEEL, 0, Counters([1]), EIGHT, 7, most=1), True)


ZEROS = Counters([0, 0])


class ErrorsTest(Promises):

    def calls(self):
        return (
            lambda *args: is_telling(*args, most=1), lambda *args: beaten_rows(*args, most=1),
            lambda *args: beaten_holds(*args, None),
            lambda machine, first, counters, witness, start: states_left(
                machine, first, counters, witness, None, None, start, most=1),
        )

    def test_in_their_order(self):
        unfit, two, one_deed = Counters([2]), Counters([2, 2]), WHEEL
        for call in self.calls():
            for value in any_values():
                if not (type(value) is int and 0 <= value < 3):
                    self.keeps(NoState, "state", value, call, FORGETS, value, unfit, one_deed, None)
                    self.keeps(NoState, "state", value, call, FORGETS, 0, two, SWAPS, value)
            for counters in (unfit, Counters([2] * 3)):
                self.keeps(Refused, "at", counters, call, FORGETS, 0, counters, one_deed, None)
            for witness in (one_deed, Machine([[0]] * 3), Machine([[0]] * 4)):
                self.keeps(Refused, "at", witness, call, SWAPS, 0, two, witness, None)
                self.keeps(Refused, "at", witness, call, FORGETS, 0, ZEROS, witness, 0)
            self.refuses(NoState, {"state": 3}, call, FORGETS, 0, ZEROS, SWAPS, 3)
            self.refuses(NoState, {"state": True}, call, FORGETS, 0, ZEROS, SWAPS, True)

    def test_a_round_0_where_they_do_not_exchange_together(self):
        for machine, first, witness, start in apart():
            if not exchange_together(machine, first, witness, start):
                for rounds in ((0, 0, 0), (0, 2, 2), (1, 1, 0)):
                    counters = Counters(rounds[:machine.deeds])
                    if 0 in counters.rounds:
                        for call in (is_telling, beaten_rows):
                            self.keeps(Refused, "at", counters, call, machine, first, counters, witness, start, most=1)

    def test_starts_other_than_0(self):
        witness = Machine([(1, 0, 3, 4, 5, 2)])
        for start, told in ((0, False), (1, False), (2, True), (3, True), (4, True), (5, True)):
            self.same(is_telling(WHEEL, 0, Counters([1]), witness, start, most=1), told)
            self.same(beaten_rows(WHEEL, 0, Counters([1]), witness, start, most=100) is None, told)
            self.same(beaten_holds(WHEEL, 0, Counters([1]), witness, start, ((), (0, 0))), not told)
            self.same(states_left(WHEEL, 0, Counters([1]), witness, (0,), start, start, most=100),
                      (0,) if told else (0, 2))
        self.same(states_left(WHEEL, 0, Counters([1]), witness, (0,), 3, 2, most=100), (1,))
        self.same(states_left(WHEEL, 0, Counters([1]), witness, (0,), 0, 2, most=100), ())


class BeatenTest(Promises):

    def check_rows(self, machine, first, counters, witness, start, rows):
        one, other = rows
        self.assertEqual((type(rows), type(one), type(other)), (tuple, tuple, tuple))
        self.assertEqual(counted(counters, one), counted(counters, other))
        self.assertEqual(ends(witness, start, one), ends(witness, start, other))
        self.assertNotEqual(ends(machine, first, one), ends(machine, first, other))
        for value in (rows, [list(one), list(other)], (other, one)):
            self.same(beaten_holds(machine, first, counters, witness, start, value), True)

    def needed(self, machine, first, counters, witness, start):
        """How many triples come by rows not longer than the longer one of two such rows, this being least."""
        length = 0
        while True:
            points = walks(machine, first, counters, witness, start, longest=length)
            if len({(standing, showing) for (state, standing), showing in points}) < len(points):
                return len(points)
            length += 1

    def test_rows_where_it_does_not_tell(self):
        for machine, first, witness, start in together() + apart():
            exchange = exchange_together(machine, first, witness, start)
            counters_told = few_counters(machine.deeds)
            if exchange:
                counters_told = counters_told + [Counters((0,) * machine.deeds),
                                                 Counters((0, 2, 0)[:machine.deeds], (1, 1, 0)[:machine.deeds])]
            for counters in counters_told:
                if is_telling(machine, first, counters, witness, start, most=20000):
                    needed = 1 if exchange else len(walks(machine, first, counters, witness, start))
                    self.same(self.is_search(needed, beaten_rows, machine, first, counters, witness, start), None)
                else:
                    needed = self.needed(machine, first, counters, witness, start)
                    rows = self.is_search(needed, beaten_rows, machine, first, counters, witness, start)
                    self.check_rows(machine, first, counters, witness, start, rows)

    def test_rows_that_are_long(self):
        for machine, witness, counters, longest in (
            (EIGHT, Machine([(1, 2, 3, 4, 5, 6, 0)]), Counters([59]), 413),
            (EIGHT, Machine([(1, 2, 0)]), Counters([59], [6]), 183),
        ):
            rows = self.is_search(longest + 1, beaten_rows, machine, 0, counters, witness, 0)
            self.check_rows(machine, 0, counters, witness, 0, rows)
            self.assertEqual(max(len(row) for row in rows), longest)

    def test_told_ones(self):
        self.same(beaten_rows(WHEEL, 0, Counters([4]), THIRD, most=1), None)
        self.check_rows(WHEEL, 0, Counters([2]), THIRD, 0, beaten_rows(WHEEL, 0, Counters([2]), THIRD, most=7))
        self.refuses(TooGreat, {"most": 5}, beaten_rows, WHEEL, 0, Counters([2]), THIRD, most=5)

    def test_beaten_holds(self):
        two = Counters([2])
        for value, wanted in (
            (((), (0,) * 6), True), ([[0] * 6, ()], True), (((), (0,) * 12), False), (((), (0,) * 3), False),
            (((0,), (0,) * 7), True), (((), ()), False), (((), (0,) * 4), False), (((), (0,) * 6, ()), False),
            (((),), False),
            (((), (0,) * 5 + (1,)), False), (((), (0,) * 5 + (-1,)), False), (((), (0,) * 5 + (False,)), False),
            (((), "000000"), False), (("", (0,) * 6), False), (((), None), False), (None, False), ("00", False),
            (6, False),
            ((), False), (((), ((0,) * 6,)), False), ({(): 0, (0,) * 6: 0}, False), (((), (0,) * 5 + ("0",)), False),
            ((THIRD, WHEEL), False), (((0,) * 3000, [0] * 2994), True), (((0,) * 3000, [0] * 2988), False),
            (((0,) * 3006, [0] * 3000), True),
        ):
            self.same(beaten_holds(WHEEL, 0, two, THIRD, 0, value), wanted, value)
            self.same(beaten_holds(machine=WHEEL, first=0, counters=two, witness=THIRD, start=0, value=value), wanted)

    def test_beaten_holds_for_all_small_pairs(self):
        for machine, first, witness, start, counters in (
            (SWAPS, 0, NONE, 0, ZEROS), (SWAPS, 1, SWAPS, 0, Counters([2, 2])), (FORGETS, 0, NONE, 0, Counters([2, 1])),
            (SQUARE, 0, Machine([(0, 1), (1, 0)]), 1, ZEROS), (FORGETS, 0, NONE, 0, ZEROS),
        ):
            rows = [row for many in range(4) for row in product((0, 1), repeat=many)]
            for one, other in product(rows, repeat=2):
                wanted = (counted(counters, one) == counted(counters, other)
                          and led(witness, start, one) == led(witness, start, other)
                          and led(machine, first, one) != led(machine, first, other))
                self.same(beaten_holds(machine, first, counters, witness, start, [one, list(other)]), wanted)

    def test_bent(self):
        for machine, first, witness, start, counters in (
            (SWAPS, 0, NONE, 0, ZEROS), (WHEEL, 0, THIRD, 0, Counters([2])),
            (FORGETS, 0, NONE, 0, Counters([1, 1], [2, 0])),
            (SQUARE, 0, Machine([(0, 1), (1, 0)]), 1, ZEROS),
        ):
            finite = Counters([turn or 2 for turn in counters.rounds], counters.rests)
            rows = beaten_rows(machine, first, finite, witness, start, most=2000)
            for value in bent(rows):
                right = type(value) is tuple and len(value) == 2 and all(
                    type(row) is tuple and all(type(deed) is int and 0 <= deed < machine.deeds for deed in row)
                    for row in value)
                right = right and counted(counters, value[0]) == counted(counters, value[1])
                right = right and ends(witness, start, value[0]) == ends(witness, start, value[1])
                right = right and ends(machine, first, value[0]) != ends(machine, first, value[1])
                self.same(beaten_holds(machine, first, counters, witness, start, value), right)

    def test_any_value(self):
        for value in any_values():
            for machine, witness, counters in ((WHEEL, THIRD, Counters([2])), (SWAPS, NONE, ZEROS)):
                self.same(beaten_holds(machine, 0, counters, witness, 0, value), False)


class StatesLeftTest(Promises):

    def check_left(self, machine, first, counters, witness, start, showing, standing):
        points = walks(machine, first, counters, witness, start, bounds=showing)
        wanted = sorted(state for (state, left), seen in points if seen == showing and left == standing)
        found = self.is_search(len(points), states_left, machine, first, counters, witness, showing, standing, start)
        self.same(found, tuple(wanted))
        return found

    def test_each_showing_and_standing(self):
        for machine, first, witness, start in together()[::2] + apart()[::2]:
            for counters in few_counters(machine.deeds)[1::2]:
                tells = tells_by_walk(machine, first, counters, witness, start)
                left = {}
                for (state, standing), showing in walks(machine, first, counters, witness, start):
                    left.setdefault((showing, standing), []).append(state)
                for showing, standing in list(left)[::5]:
                    found = self.check_left(machine, first, counters, witness, start, showing, standing)
                    self.same(list(found), sorted(left[(showing, standing)]))
                    self.assertTrue(not tells or len(found) == 1)
                for standing in range(witness.states):
                    if (showing, standing) not in left:
                        self.same(states_left(machine, first, counters, witness, showing, standing, start, most=9000),
                                  ())

    def test_kinds_in_full(self):
        for machine, first, witness, start in together()[:20] + apart()[:20]:
            for counters in (Counters((0,) * machine.deeds),
                             Counters((0, 2, 0)[:machine.deeds], (2, 1, 0)[:machine.deeds])):
                for row in any_rows(machine.states, machine.deeds, 2, longest=6):
                    standing = ends(witness, start, row)
                    found = self.check_left(machine, first, counters, witness, start, counted(counters, row), standing)
                    self.assertIn(ends(machine, first, row), found)

    def test_kinds_in_full_against_all_rows_with_these_numbers(self):
        flip = Machine([(0, 1), (1, 0)])
        for machine, witness in ((SWAPS, flip), (FORGETS, flip), (SQUARE, NONE), (ORDERS, FORGETS), (TURN, SWAPS)):
            for many, more in product(range(4), repeat=2):
                rows = set(permutations((0,) * many + (1,) * more))
                for standing in range(witness.states):
                    wanted = sorted({led(machine, 0, row) for row in rows if led(witness, 0, row) == standing})
                    self.same(states_left(machine, 0, ZEROS, witness, [many, more], standing, most=2000), tuple(wanted))

    def test_numbers_to_40_in_full(self):
        self.same(states_left(EIGHT, 1, Counters([0]), THIRD, (40,), 1, most=41), (1,))
        self.same(states_left(EIGHT, 1, Counters([0]), THIRD, (40,), 0, most=41), ())
        self.refuses(TooGreat, {"most": 40}, states_left, EIGHT, 1, Counters([0]), THIRD, (40,), 1, most=40)
        self.same(states_left(SWAPS, 0, ZEROS, NONE, (40, 40), 0, most=3 * 41 * 41), (0, 1, 2))

    def test_a_telling_witness_leaves_one_or_none(self):
        for first in range(3):
            for showing in product(range(3), repeat=2):
                for standing in range(3):
                    left = states_left(SWAPS, first, ZEROS, SWAPS, showing, standing, first, most=200)
                    self.assertIn(left, ((), (standing,)))

    def test_errors_behind_the_others(self):
        two = Counters([2, 2])
        for showing, at in ((None, -1), ((0,), -1), ([0, 2], 1), ((0, True), 1), ((-1, 9), 0), ("00", -1)):
            self.refuses(BadShowing, {"at": at}, states_left, FORGETS, 0, two, SWAPS, showing, 9, most=1)
            self.refuses(NoState, {"state": 7}, states_left, FORGETS, 0, two, SWAPS, showing, 9, 7, most=1)
        for value in any_values():
            try:
                check_showing(two, value)
            except BadShowing as error:
                self.refuses(BadShowing, {"at": error.at}, states_left, SWAPS, 0, two, SWAPS, value, None, most=1)
            if not (type(value) is int and 0 <= value < 3):
                self.keeps(NoState, "state", value, states_left, FORGETS, 0, two, SWAPS, (0, 0), value, most=1)
                self.keeps(NoState, "state", value, states_left, FORGETS, 0, ZEROS, SWAPS, (10 ** 30, 0), value, 1,
                           most=1)

    def test_without_a_witness_that_sees_anything(self):
        for machine in (SWAPS, ORDERS, HOURS, FORGETS):
            for showing in product((0, 1), repeat=2):
                self.same(states_left(machine, 0, Counters([2, 2]), NONE, showing, 0, most=200),
                          open_lot(machine, 0, Counters([2, 2]), showing, most=200))
        self.assertEqual(fold_size(SWAPS, 0, Counters([2, 2])), 3)


if __name__ == "__main__":
    unittest.main()
