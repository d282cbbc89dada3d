"""Points [27] and [28]: what rows do, still doings, and keepers."""

import unittest
from itertools import product
from math import prod

from onewitness.counters import Counters, shown
from onewitness.doings import all_doings, doing_behind, doing_of, is_free, keepers, still_doings
from onewitness.errors import BadRow, Forgets, NoState, Refused, TooGreat
from onewitness.lots import fold_size, lots_of
from onewitness.machines import Machine, led, reached
from tests.helper import (
    CUBE, EIGHT, FORGETS, HOURS, ORDERS, PAIRS, PARTLY, SQUARE, SWAPS, TURN, TWISTED, WHEEL, Promises, any_rows,
    any_values, bent, exact, exchanging, rounds_for, turned,
)
from tests.test_machines import row_fault

THREE = Machine([(1, 2, 0), (1, 0, 2)])
HALVES = Counters((1, 2))


def done_deed_by_deed(machine, first, counters, row):
    """What a row does, looked up state by state and deed by deed."""
    images = []
    for state in reached(machine, first):
        for deed in row:
            state = machine.tables[deed][state]
        images.append(state)
    return tuple(images), tuple(list(row).count(kind) % turn for kind, turn in enumerate(counters.rounds))


def doings_by_rows(machine, first, counters):
    """By doing a row that does it, found by rows longer and longer."""
    found = {done_deed_by_deed(machine, first, counters, ()): ()}
    fresh = list(found.values())
    while fresh:
        later = []
        for row in fresh:
            for deed in range(machine.deeds):
                longer = row + (deed,)
                one = done_deed_by_deed(machine, first, counters, longer)
                if one not in found:
                    found[one] = longer
                    later.append(longer)
        fresh = later
    return found


def told():
    """Machines, a first state, and counters, with not too many doings."""
    named = ((SWAPS, 0), (THREE, 0), (THREE, 2), (WHEEL, 1), (EIGHT, 0), (HOURS, 3), (ORDERS, 0), (CUBE, 5),
             (SQUARE, 0),
             (TWISTED, 0), (PAIRS, 0), (TURN, 0), (TURN, 3), (PARTLY, 1), (PARTLY, 3), (Machine([[0]] * 4), 0))
    for machine, first in named + tuple((turned(seed, 2 + seed % 3, 1 + seed % 3), 0) for seed in range(12)):
        for counters in rounds_for(machine.deeds):
            if prod(counters.rounds) <= 8:
                yield machine, first, counters


class DoingTest(Promises):

    def test_deed_by_deed(self):
        for seed, (machine, first) in enumerate(exchanging()):
            for counters in rounds_for(machine.deeds) + [Counters([60] * machine.deeds)]:
                for row in any_rows(seed, machine.deeds, 4, longest=70):
                    wanted = done_deed_by_deed(machine, first, counters, row)
                    self.same(doing_of(machine, first, counters, row), wanted)
                    self.same(doing_of(machine, first, counters, list(row)), wanted)
                    self.same(wanted[1], shown(counters, row))

    def test_told_ones(self):
        self.same(doing_of(THREE, 0, HALVES, (0, 1, 0)), ((1, 0, 2), (0, 1)))
        self.same(doing_of(THREE, 0, HALVES, []), ((0, 1, 2), (0, 0)))
        self.same(doing_of(PARTLY, 3, Counters([60, 2]), [0] * 400), ((2, 3, 1), (40, 0)))
        self.same(doing_of(TURN, 3, HALVES, (1, 0, 1)), ((3,), (0, 0)))

    def test_rows(self):
        for value in any_values():
            fault = row_fault(value, 2)
            if fault is None:
                self.same(doing_of(SWAPS, 0, HALVES, value), done_deed_by_deed(SWAPS, 0, HALVES, value))
            else:
                self.refuses(BadRow, {"at": fault}, doing_of, SWAPS, 0, HALVES, value)
        self.refuses(BadRow, {"at": -1}, doing_of, SWAPS, 0, HALVES, [0] * 401)
        self.refuses(BadRow, {"at": 2}, doing_of, SWAPS, 0, HALVES, (0, 1, True))

    def test_all_doings(self):
        for machine, first, counters in told():
            wanted = doings_by_rows(machine, first, counters)
            found = self.is_search(len(wanted), all_doings, machine, first, counters)
            self.same(found, tuple(sorted(wanted)))

    def test_most(self):
        for call in (all_doings, still_doings, keepers):
            call(THREE, 0, HALVES, most=6)
            self.refuses(TooGreat, {"most": 5}, call, THREE, 0, HALVES, most=5)
        doing_behind(THREE, 0, HALVES, NOTHING, NOTHING, most=6)
        self.refuses(TooGreat, {"most": 5}, doing_behind, THREE, 0, HALVES, NOTHING, NOTHING, most=5)
        self.assertEqual(len(all_doings(EIGHT, 0, Counters([60]), most=120)), 120)
        six = Machine([(1, 2, 3, 4, 5, 0), (1, 0, 2, 3, 4, 5)])
        self.assertEqual(len(all_doings(six, 0, Counters([4, 3]), most=10000)), 8640)
        self.refuses(TooGreat, {"most": 10000}, all_doings, six, 0, Counters([4, 5]), most=10000)


NOTHING = ((0, 1, 2), (0, 0))


class BehindTest(Promises):

    def test_one_row_behind_another(self):
        for machine, first, counters in told():
            rows = doings_by_rows(machine, first, counters)
            some = sorted(rows)[::1 + len(rows) // 7]
            for one, other in product(some, repeat=2):
                wanted = done_deed_by_deed(machine, first, counters, rows[one] + rows[other])
                self.same(doing_behind(machine, first, counters, one, other, most=len(rows)), wanted)
                self.same(doing_behind(machine, first, counters, [list(part) for part in one], list(other), most=900),
                          wanted)

    def test_search(self):
        for machine, first, counters in list(told())[::4]:
            rows = doings_by_rows(machine, first, counters)
            self.is_search(len(rows), doing_behind, machine, first, counters, min(rows), max(rows))

    def test_any_value_that_is_no_doing(self):
        for value in any_values():
            self.keeps(Refused, "at", value, doing_behind, THREE, 0, HALVES, value, None, most=9)
            self.keeps(Refused, "at", value, doing_behind, THREE, 0, HALVES, NOTHING, value, most=9)
            self.refuses(TooGreat, {"most": 5}, doing_behind, THREE, 0, HALVES, value, value, most=5)

    def test_bent(self):
        for machine, first, counters in ((THREE, 0, HALVES), (PARTLY, 1, Counters([3, 2])), (WHEEL, 0, Counters([2]))):
            known = doings_by_rows(machine, first, counters)
            for one in known:
                for value in bent(one):
                    if exact(value) in [exact(other) for other in known]:
                        row = known[value] + known[one]
                        self.same(doing_behind(machine, first, counters, value, one, most=50),
                                  done_deed_by_deed(machine, first, counters, row))
                    else:
                        self.keeps(Refused, "at", value, doing_behind, machine, first, counters, value, one, most=50)
                        self.keeps(Refused, "at", value, doing_behind, machine, first, counters, one, value, most=50)

    def test_what_no_row_does(self):
        for value in (
            ((1, 2, 0), (0, 1)), ((0, 1, 2), (0, 1)), ((0, 1, 2), (0, 2)), ((0, 1, 2), (1, 0)), ((0, 1), (0, 0)),
            ((0, 1, 2), (0,)), ((0, 1, 2), (0, 0), ()), ((0, 1, 2),), ((False, True, 2), (0, 0)),
            ((0, 1, 2), (0, False)),
            ("012", (0, 0)), ((0, 1, 2), "00"), ((0, 1, 2), None), (0, 1, 2), ((0, 0, 0), (0, 0)), ((3, 1, 2), (0, 0)),
        ):
            self.keeps(Refused, "at", value, doing_behind, THREE, 0, HALVES, value, NOTHING, most=6)
            self.keeps(Refused, "at", value, doing_behind, THREE, 0, HALVES, NOTHING, value, most=6)


class StillTest(Promises):

    def test_still_ones_and_keepers(self):
        for machine, first, counters in told():
            rows = doings_by_rows(machine, first, counters)
            still = sorted(images for images, counts in rows if not any(counts))
            place = reached(machine, first).index(first)
            self.same(self.is_search(len(rows), still_doings, machine, first, counters), tuple(still))
            self.same(self.is_search(len(rows), keepers, machine, first, counters),
                      tuple(images for images in still if images[place] == first))

    def test_what_holds(self):
        for machine, first, counters in told():
            still = still_doings(machine, first, counters, most=9000)
            keeping = keepers(machine, first, counters, most=9000)
            place = reached(machine, first).index(first)
            self.assertEqual(len(all_doings(machine, first, counters, most=9000)), len(still) * prod(counters.rounds))
            lot = tuple(sorted({images[place] for images in still}))
            self.assertIn(lot, lots_of(machine, first, counters))
            self.assertIn(first, lot)
            self.assertEqual(len(still), len(keeping) * fold_size(machine, first, counters))

    def test_told_ones(self):
        self.same(still_doings(THREE, 0, HALVES, most=9), ((0, 1, 2), (1, 2, 0), (2, 0, 1)))
        self.same(keepers(THREE, 0, HALVES, most=9), ((0, 1, 2),))
        self.same(still_doings(WHEEL, 0, Counters([2]), most=4), ((0, 1, 2, 3), (2, 3, 0, 1)))
        self.same(keepers(SWAPS, 1, Counters([1, 1]), most=6), ((0, 1, 2), (2, 1, 0)))
        self.same(keepers(PARTLY, 3, Counters([1, 1]), most=6), ((1, 2, 3), (2, 1, 3)))


class FreeTest(Promises):

    def test_against_all_rows(self):
        for machine, first in exchanging():
            come = reached(machine, first)
            if len(come) > 5 and machine not in (HOURS, TWISTED, ORDERS, CUBE, EIGHT, PAIRS):
                continue
            images = [one for one, counts in doings_by_rows(machine, first, Counters([1] * machine.deeds))]
            free = all(one == come or all(image != state for image, state in zip(one, come)) for one in images)
            self.same(is_free(machine, first), free, machine.tables)

    def test_told_ones(self):
        self.same([is_free(one, 0) for one in (THREE, WHEEL, EIGHT, HOURS, TWISTED, PAIRS, SWAPS, CUBE, ORDERS)],
                  [False, True, True, True, True, False, False, True, True])
        self.same([is_free(TURN, 3), is_free(TURN, 0), is_free(PARTLY, 1), is_free(SQUARE, 0)],
                  [True, False, False, False])
        self.same(is_free(machine=Machine([[0]] * 4), first=0), True)
        greatest = Machine([(1, 2, 3, 4, 5, 6, 7, 0), (1, 0, 2, 3, 4, 5, 6, 7), (0, 2, 1, 3, 4, 5, 6, 7)])
        self.same(is_free(greatest, 0), False)
        for machine, first in exchanging():
            for state in reached(machine, first):
                self.same(is_free(machine, state), is_free(machine, first))

    def test_errors(self):
        for value in any_values():
            if not (type(value) is int and 0 <= value < 3):
                self.keeps(NoState, "state", value, is_free, FORGETS, value)
        self.refuses(Forgets, {"deed": 1, "one": 1, "other": 2}, is_free, FORGETS, 1)
        self.same(is_free(FORGETS, 2), True)


class ErrorsTest(Promises):

    def test_in_their_order(self):
        calls = (
            lambda *args: doing_of(*args, None), lambda *args: all_doings(*args, most=1),
            lambda *args: still_doings(*args, most=1), lambda *args: keepers(*args, most=1),
            lambda *args: doing_behind(*args, None, None, most=1),
        )
        refused = (Counters([2]), Counters([2] * 3), Counters([0, 2]), Counters([2, 0]), Counters([2, 2], [0, 1]),
                   Counters([1, 1], [6, 0]), Counters([0, 0], [1, 1]))
        for call in calls:
            for value in any_values():
                if not (type(value) is int and 0 <= value < 3):
                    self.keeps(NoState, "state", value, call, FORGETS, value, refused[0])
            for counters in refused:
                self.keeps(Refused, "at", counters, call, FORGETS, 0, counters)
                self.keeps(Refused, "at", counters, call, SWAPS, 0, counters)
            self.refuses(Forgets, {"deed": 0, "one": 0, "other": 1}, call, FORGETS, 0, HALVES)
            self.refuses(Forgets, {"deed": 1, "one": 1, "other": 2}, call, FORGETS, 1, HALVES)

    def test_rows_lead_as_doings_tell(self):
        for row in any_rows(5, 2, 20):
            images, counts = doing_of(PARTLY, 2, HALVES, row)
            self.assertEqual(images, tuple(led(PARTLY, state, row) for state in (1, 2, 3)))


if __name__ == "__main__":
    unittest.main()
