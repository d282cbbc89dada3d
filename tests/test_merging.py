"""Points [43] and [44]: merges of what several hands counted, and what is left where counters are lost."""

import random
import unittest

from onewitness.counters import Counters, all_showings, check_showing, shown
from onewitness.errors import BadShowing, Refused
from onewitness.lots import lot_shown, lots_of
from onewitness.merging import left_showing, merged, without_kinds
from tests.helper import (
    MIXED, Promises, any_rows, any_values, bent, counted, exchanging, is_any_sequence, is_ascending_below,
)

SEVERAL = (
    Counters((1,)), Counters((0,), (6,)), Counters((2,), (3,)), Counters((60, 0), (6, 0)), Counters((3, 0), (2, 0)),
    MIXED, Counters((1, 1, 1), (1, 2, 6)), Counters((2, 3, 4, 5)), Counters((0, 0, 0, 0)),
    Counters((7, 1, 0, 4), (0, 5, 3, 6)),
)


def first_wrong(counters, showings):
    """The index of the first that is no showing, None if all are."""
    for at, value in enumerate(showings):
        try:
            check_showing(counters, value)
        except BadShowing:
            return at
    return None


class MergedTest(Promises):

    def test_what_hands_did_in_any_order_and_in_pieces(self):
        for seed, counters in enumerate(SEVERAL):
            kinds, source = len(counters.rounds), random.Random(seed)
            for many in (1, 2, 3, 8):
                rows = any_rows(seed + many, kinds, many, longest=20)
                whole = counted(counters, [deed for row in rows for deed in row])
                showings = [shown(counters, row) for row in rows]
                self.same(merged(counters, showings), whole)
                source.shuffle(showings)
                self.same(merged(counters, tuple(list(showing) for showing in showings)), whole)
                for _ in range(4):
                    pieces = list(showings)
                    while len(pieces) > 1:
                        source.shuffle(pieces)
                        size = source.randint(2, len(pieces))
                        pieces = [merged(counters, pieces[:size]), *pieces[size:]]
                        if source.random() < 0.3:
                            pieces.append(merged(counters, []))
                    self.same(pieces, [whole])

    def test_none_and_one(self):
        for counters in SEVERAL:
            nothing = (0,) * len(counters.rounds)
            for value in ((), []):
                self.same(merged(counters, value), nothing)
            self.same(merged(counters, [nothing]), nothing)
            if 0 not in counters.rounds and len(counters.rounds) < 4:
                for showing in all_showings(counters, most=5000):
                    self.same(merged(counters, [showing]), showing)
                    self.same(merged(counters, [nothing, list(showing), nothing]), showing)

    def test_all_pairs_of_showings(self):
        for counters in (Counters((3,), (2,)), Counters((1,), (3,)), Counters((4,)), Counters((2, 3), (1, 0))):
            rows = {}
            for row in any_rows(3, len(counters.rounds), 400, longest=9):
                rows.setdefault(shown(counters, row), row)
            for one, row in rows.items():
                for other, more in rows.items():
                    self.same(merged(counters, (one, other)), counted(counters, row + more))

    def test_many_showings_and_great_numbers(self):
        self.same(merged(Counters((0, 3), (0, 1)), [(10 ** 30, 3)] * 400), (400 * 10 ** 30, 3))
        self.same(merged(Counters((0, 3), (0, 1)), [(10 ** 30, 2)] * 400), (400 * 10 ** 30, 2))
        self.same(merged(Counters((60,), (6,)), [(65,)] * 400), ((65 * 400 - 6) % 60 + 6,))
        rows = any_rows(9, 3, 400, longest=30)
        self.same(merged(MIXED, [shown(MIXED, row) for row in rows]),
                  counted(MIXED, [deed for row in rows for deed in row]))

    def test_told_ones(self):
        mixed = Counters((3, 0), (2, 0))
        self.same(merged(mixed, [(4, 7), (2, 1), (1, 0)]), (4, 8))
        self.same(merged(mixed, [(1, 0), (1, 0)]), (2, 0))
        self.same(merged(mixed, [(1, 5), (1, 0), (3, 1)]), (2, 6))
        self.same(merged(showings=((1, 5),), counters=mixed), (1, 5))
        self.same(merged(Counters((1, 1), (0, 1)), [(0, 1), (0, 0)]), (0, 1))

    def test_wrong_values(self):
        mixed = Counters((3, 0), (2, 0))
        for value in any_values():
            if not is_any_sequence(value):
                self.keeps(Refused, "at", value, merged, mixed, value)
            elif first_wrong(mixed, value) is None:
                merged(mixed, value)
            else:
                self.refuses(BadShowing, {"at": first_wrong(mixed, value)}, merged, mixed, value)
        for value in any_values():
            if first_wrong(mixed, [value]) == 0:
                self.refuses(BadShowing, {"at": 2}, merged, mixed, [(0, 0), [4, 9], value, None])
                self.refuses(BadShowing, {"at": 0}, merged, mixed, (value, value))
        for value in bent([(4, 7), [2, 1], (1, 0)]):
            if is_any_sequence(value) and first_wrong(mixed, value) is not None:
                self.refuses(BadShowing, {"at": first_wrong(mixed, value)}, merged, mixed, value)
        self.refuses(BadShowing, {"at": 399}, merged, mixed, [(0, 0)] * 399 + [(5, 0)])


class LostTest(Promises):

    def kinds_of(self, counters):
        kinds = len(counters.rounds)
        return [tuple(kind for kind in range(kinds) if chosen >> kind & 1) for chosen in range(1 << kinds)]

    def test_what_is_left_is_what_those_counters_show(self):
        for seed, counters in enumerate(SEVERAL):
            for kinds in self.kinds_of(counters):
                lost = without_kinds(counters, kinds)
                self.assertIs(type(lost), Counters)
                for kind, told in enumerate(zip(lost.rounds, lost.rests)):
                    self.same(told, (1, 0) if kind in kinds else (counters.rounds[kind], counters.rests[kind]))
                self.assertTrue(without_kinds(counters, list(kinds)) == lost)
                for row in any_rows(seed, len(counters.rounds), 5, longest=30):
                    showing = shown(counters, row)
                    self.same(left_showing(counters, kinds, showing), shown(lost, row))
                    self.same(left_showing(counters, list(kinds), list(showing)), shown(lost, row))

    def test_it_tells_what_can_still_be_told(self):
        for machine, first in exchanging()[::2]:
            counters = Counters((2, 3, 4, 0)[:machine.deeds])
            for kinds in self.kinds_of(counters):
                lost = without_kinds(counters, kinds)
                for row in any_rows(first, machine.deeds, 3):
                    left = left_showing(counters, kinds, shown(counters, row))
                    lot = lot_shown(machine, first, lost, left)
                    self.assertIn(lot, lots_of(machine, first, lost))
                    # What is left of one hand's showing does not hang on what another one lost.
                    others = [shown(counters, row), left, (0,) * machine.deeds]
                    self.same(left_showing(counters, kinds, merged(counters, others)),
                              merged(lost, [left_showing(counters, kinds, one) for one in others]))

    def test_told_ones(self):
        mixed = Counters((3, 0), (2, 0))
        self.same(without_kinds(mixed, (0,)).rounds, (1, 0))
        self.same(left_showing(mixed, (0,), (4, 7)), (0, 7))
        self.same(left_showing(kinds=[1], showing=[4, 7], counters=mixed), (4, 0))
        self.same(left_showing(mixed, (), (4, 7)), (4, 7))
        self.same(left_showing(mixed, (0, 1), (4, 7)), (0, 0))
        self.assertTrue(without_kinds(mixed, []) == mixed)
        self.assertTrue(without_kinds(mixed, (0, 1)) == Counters((1, 1)))

    def test_wrong_kinds_ahead_of_wrong_showings(self):
        values = [*any_values(), *bent((0, 1)), *bent([1]), (1, 0), (0, 0), [2], (0, True), (0, 1, 2), "0", (0, None)]
        for value in values:
            if is_ascending_below(value, 2):
                without_kinds(Counters((3, 0), (2, 0)), value)
                self.refuses(BadShowing, {"at": 0}, left_showing, Counters((3, 0), (2, 0)), value, (5, 0))
            else:
                self.keeps(Refused, "at", value, without_kinds, Counters((3, 0), (2, 0)), value)
                for showing in ((0, 0), (5, 0), None):
                    self.keeps(Refused, "at", value, left_showing, Counters((3, 0), (2, 0)), value, showing)

    def test_wrong_showings(self):
        for value, at in ((None, -1), ((0,), -1), ((0, 0, 0), -1), ((5, 0), 0), ((0, -1), 1), ((True, 0), 0),
                          ("00", -1)):
            for kinds in ((), (0,), [0, 1]):
                self.refuses(BadShowing, {"at": at}, left_showing, Counters((3, 0), (2, 0)), kinds, value)


if __name__ == "__main__":
    unittest.main()
