"""Points [7], [8] and [9]: counters and showings."""

import unittest
from itertools import product

from onewitness.counters import (
    Counters, all_showings, check_showing, is_finite, need_fit, shown, shown_number, shown_on, showings_many,
)
from onewitness.errors import BadRow, BadShowing, NoDeed, Refused, TooGreat
from onewitness.machines import Machine
from tests.helper import MIXED, SWAPS, TURN, Promises, any_values
from tests.test_machines import is_number_below, row_fault


def are_rounds(value):
    if type(value) not in (list, tuple) or len(value) not in (1, 2, 3, 4):
        return False
    return all(is_number_below(item, 61) for item in value)


def are_rests(value, kinds):
    if type(value) not in (list, tuple) or len(value) not in (0, kinds):
        return False
    return all(is_number_below(item, 7) for item in value)


def count_up(turn, rest, many):
    """What a counter shows, counted one by one: behind its last number it goes back to its rest."""
    at = 0
    for _ in range(many):
        at += 1
        if turn != 0 and at == rest + turn:
            at = rest
    return at


def showing_fault(counters, value):
    """The kind that BadShowing must tell of any value, None for a showing."""
    if type(value) not in (list, tuple) or len(value) != len(counters.rounds):
        return -1
    for kind, item in enumerate(value):
        turn, rest = counters.rounds[kind], counters.rests[kind]
        if type(item) is not int or item < 0 or (turn > 0 and item >= rest + turn):
            return kind
    return None


def some_counters():
    yield from (Counters([turn], [rest]) for turn in (0, 1, 2, 3, 60) for rest in (0, 1, 2, 6))
    yield from (MIXED, Counters([2, 3]), Counters((0, 0)), Counters((1, 1), (1, 0)))
    yield Counters([1, 2, 0, 3], [2, 1, 1, 0])


class CountersTest(Promises):

    def test_attributes(self):
        self.same([MIXED.rounds, MIXED.rests], [(2, 0, 3), (0, 0, 1)])
        for rests in ((), []):
            self.same(Counters([2, 0], rests).rests, (0, 0))
        self.same(Counters([2, 0]).rests, (0, 0))
        self.same(Counters((0, 1, 60, 7), [6, 0, 1, 6]).rests, (6, 0, 1, 6))
        self.same(Counters(rests=(1,), rounds=[5]).rounds, (5,))
        self.same(Counters((0, 1, 60, 7)).rounds, (0, 1, 60, 7))

    def test_lists_are_neither_changed_nor_kept(self):
        rounds, rests = [2, 3], [1, 0]
        counters = Counters(rounds, rests)
        self.assertEqual((rounds, rests), ([2, 3], [1, 0]))
        rounds[0] = 9
        rests.append(5)
        self.same([counters.rounds, counters.rests], [(2, 3), (1, 0)])
        empty = []
        counters = Counters([2], empty)
        empty.append(4)
        self.same(counters.rests, (0,))

    def test_edges_of_rounds(self):
        for turn in (0, 1, 2, 59, 60):
            self.same(Counters([turn]).rounds, (turn,))
        for turn in (61, -1, True, False, "2", None, (2,), 10 ** 5000):
            for rounds in ([turn], (1, turn), [turn, 2, 2, 2]):
                self.keeps(Refused, "at", rounds, Counters, rounds)

    def test_edges_of_rests(self):
        for rest in (0, 1, 5, 6):
            self.same(Counters([2], [rest]).rests, (rest,))
        for rest in (7, -1, True, False, "0", None, [0], 10 ** 5000):
            for rounds, rests in (([2], [rest]), ((1, 0), (0, rest)), ([1, 2, 3, 4], [rest, 0, 0, 0])):
                self.keeps(Refused, "at", rests, Counters, rounds, rests)

    def test_how_many_kinds(self):
        for many in (1, 2, 3, 4):
            self.same(Counters([1] * many).rests, (0,) * many)
        for rounds in ([], (), [1] * 5, (0,) * 5):
            self.keeps(Refused, "at", rounds, Counters, rounds)
        for many, rests in ((1, [0, 0]), (2, (0,)), (2, [0] * 3), (4, [1] * 5), (3, (1,))):
            self.keeps(Refused, "at", rests, Counters, [2] * many, rests)

    def test_rounds_are_looked_at_first(self):
        rounds, rests = [61], [7]
        self.keeps(Refused, "at", rounds, Counters, rounds, rests)
        self.keeps(Refused, "at", rounds, Counters, rests=rests, rounds=rounds)
        self.keeps(Refused, "at", rests, Counters, [60], rests)

    def test_any_value(self):
        for value in any_values():
            if are_rounds(value):
                self.same(Counters(value).rounds, tuple(value))
            else:
                self.keeps(Refused, "at", value, Counters, value)
                self.keeps(Refused, "at", value, Counters, value, None)
            for rounds in ((2,), [2, 0], (1, 1, 1), [3, 0, 2, 60]):
                if are_rests(value, len(rounds)):
                    self.same(Counters(rounds, value).rests, tuple(value) or (0,) * len(rounds))
                else:
                    self.keeps(Refused, "at", value, Counters, rounds, value)

    def test_equality(self):
        self.assertIs(Counters([2, 3]) == Counters((2, 3), (0, 0)), True)
        self.assertIs(Counters([2, 3], []) != Counters((2, 3), ()), False)
        for other in (Counters([2, 3], [0, 1]), Counters([3, 2]), Counters([2]), Machine([[0]]), None, 2, (2, 3), "x"):
            self.assertIs(Counters([2, 3]) == other, False)
            self.assertIs(Counters([2, 3]) != other, True)
        unlike = [Counters(rounds, rests) for rounds in ([1], [2], [1, 2], [2, 1], [2, 2])
                  for rests in ([0] * len(rounds), [1] * len(rounds), [6] + [0] * (len(rounds) - 1))]
        for one, other in product(unlike, repeat=2):
            self.assertIs(one == other, one is other)

    def test_need_fit(self):
        full = Counters([0, 0])
        self.assertIs(need_fit(SWAPS, full), full)
        self.assertIs(need_fit(machine=TURN, counters=full), full)
        for counters in (Counters([0]), Counters([2, 2, 2]), MIXED, Counters([1] * 4)):
            self.keeps(Refused, "at", counters, need_fit, SWAPS, counters)

    def test_is_finite(self):
        for rounds, finite in (([0], False), ([1], True), ((60, 1, 2, 3), True), ((1, 0), False), ([0, 2], False)):
            self.same(is_finite(Counters(rounds, [6] * len(rounds))), finite)
        self.same(is_finite(counters=Counters([2], [0])), True)


class ShownNumberTest(Promises):

    def test_against_counting(self):
        for turn, rest in product((0, 1, 2, 3, 7, 60), range(7)):
            counters = Counters([5, turn], [1, rest])
            for many in range(140):
                self.same(shown_number(counters, 1, many), count_up(turn, rest, many), (turn, rest, many))

    def test_round_0_counts_in_full(self):
        for rest in (0, 3, 6):
            for many in (0, 1, 6, 61, 10 ** 30, 10 ** 5000):
                self.same(shown_number(Counters([0], [rest]), 0, many), many)

    def test_round_1(self):
        self.same([shown_number(Counters([1]), 0, many) for many in range(4)], [0, 0, 0, 0])
        self.same([shown_number(Counters([1], [2]), 0, many) for many in range(5)], [0, 1, 2, 2, 2])

    def test_great_numbers(self):
        self.same(shown_number(Counters([7], [3]), 0, 10 ** 30), 3 + (10 ** 30 - 3) % 7)
        self.same(shown_number(counters=Counters([60]), kind=0, many=60 * 10 ** 30 + 59), 59)

    def test_any_kind(self):
        for value in any_values():
            if is_number_below(value, 3):
                self.same(shown_number(MIXED, value, 0), 0)
            else:
                self.keeps(NoDeed, "deed", value, shown_number, MIXED, value, 0)
                self.keeps(NoDeed, "deed", value, shown_number, MIXED, value, None)

    def test_any_number(self):
        for value in any_values():
            if type(value) is int and value >= 0:
                self.same(shown_number(MIXED, 1, value), value)
                self.same(shown_number(MIXED, 0, value), value % 2)
            else:
                self.keeps(Refused, "at", value, shown_number, MIXED, 1, value)


class ShowingTest(Promises):

    def test_shown(self):
        self.same(shown(MIXED, (0, 1, 0, 2, 0, 2, 1)), (1, 2, 2))
        self.same(shown(MIXED, []), (0, 0, 0))
        self.same(shown(counters=Counters([0]), row=[0] * 400), (400,))
        self.same(shown(Counters([3], [2]), [0] * 400), (2 + 398 % 3,))

    def test_shown_against_counting(self):
        for counters in some_counters():
            kinds = len(counters.rounds)
            for many in range(6):
                for row in product(range(kinds), repeat=many):
                    wanted = tuple(count_up(counters.rounds[kind], counters.rests[kind], row.count(kind))
                                   for kind in range(kinds))
                    self.same(shown(counters, row), wanted)

    def test_shown_of_any_value(self):
        for counters in (MIXED, Counters([0]), Counters([2, 2])):
            for value in any_values():
                fault = row_fault(value, len(counters.rounds))
                if fault is None:
                    self.same(sum(shown(Counters([0] * len(counters.rounds)), value)), len(value))
                else:
                    self.refuses(BadRow, {"at": fault}, shown, counters, value)

    def test_shown_refuses_bad_rows(self):
        for value, at in ((None, -1), ([0] * 401, -1), ("0", -1), ([0, 3], 1), ([True], 0), ([1, 2, -1], 2)):
            self.refuses(BadRow, {"at": at}, shown, MIXED, value)

    def test_check_showing(self):
        self.same(check_showing(MIXED, [1, 40, 3]), (1, 40, 3))
        self.same(check_showing(counters=MIXED, value=(0, 10 ** 30, 0)), (0, 10 ** 30, 0))
        self.same(check_showing(Counters([60], [6]), [65]), (65,))
        self.same(check_showing(Counters([0], [6]), [10 ** 5000]), (10 ** 5000,))
        given = [1, 2, 3]
        checked = check_showing(MIXED, given)
        given[0] = 0
        self.same(checked, (1, 2, 3))

    def test_bad_showings(self):
        for value, at in (
            (None, -1), ((), -1), ([0, 0], -1), ((0,) * 4, -1), ("000", -1), (5, -1), (MIXED, -1), ([2, 0], -1),
            ((2, 0, 0), 0), ((1, -1, 0), 1), ((1, 0, 4), 2), ((2, -1, 4), 0), ((1, True, 0), 1), ((False, 0, 0), 0),
            ((0, "1", 0), 1), ((0, 0, None), 2), ((0, [0], 9), 1),
        ):
            self.refuses(BadShowing, {"at": at}, check_showing, MIXED, value)
            self.refuses(BadShowing, {"at": at}, shown_on, MIXED, value, 0)
        self.refuses(BadShowing, {"at": 0}, check_showing, Counters([60], [6]), [66])
        self.refuses(BadShowing, {"at": 0}, check_showing, Counters([1]), [1])

    def test_check_showing_of_any_value(self):
        for counters in some_counters():
            for value in any_values():
                fault = showing_fault(counters, value)
                if fault is None:
                    self.same(check_showing(counters, value), tuple(value))
                else:
                    self.refuses(BadShowing, {"at": fault}, check_showing, counters, value)
                    self.refuses(BadShowing, {"at": fault}, shown_on, counters, value, None)

    def test_shown_on(self):
        self.same(shown_on(MIXED, (1, 2, 3), 2), (1, 2, 1))
        self.same(shown_on(MIXED, [1, 2, 3], 0), (0, 2, 3))
        self.same(shown_on(counters=MIXED, showing=(1, 10 ** 30, 3), deed=1), (1, 10 ** 30 + 1, 3))
        given = [1, 2, 3]
        shown_on(MIXED, given, 0)
        self.assertEqual(given, [1, 2, 3])

    def test_shown_on_goes_along_with_rows(self):
        for counters in some_counters():
            for kind in range(len(counters.rounds)):
                showing = (0,) * len(counters.rounds)
                for many in range(1, 140):
                    showing = shown_on(counters, showing, kind)
                    self.same(showing[kind], count_up(counters.rounds[kind], counters.rests[kind], many))
                    self.same(showing, shown(counters, [kind] * many))

    def test_shown_on_by_any_deed(self):
        for value in any_values():
            if is_number_below(value, 3):
                self.same(shown_on(MIXED, (0, 0, 0), value), shown(MIXED, (value,)))
            else:
                self.keeps(NoDeed, "deed", value, shown_on, MIXED, (0, 0, 0), value)
        self.refuses(BadShowing, {"at": -1}, shown_on, MIXED, None, 9)
        self.refuses(NoDeed, {"deed": True}, shown_on, MIXED, (0, 0, 0), True)


class AllShowingsTest(Promises):

    def counted(self, counters):
        """All showings of rows, found by going on from each found one by each kind."""
        found = {(0,) * len(counters.rounds)}
        fresh = list(found)
        while fresh:
            later = [shown_on(counters, showing, kind) for showing in fresh for kind in range(len(counters.rounds))]
            fresh = sorted(set(later) - found)
            found.update(fresh)
        return tuple(sorted(found))

    def test_against_a_count_of_rows(self):
        for rounds, rests in (([1], []), ([1], [6]), ([60], [6]), ([2, 1], [0, 2]), ((2, 1), ()),
                              ([2, 3, 1], [1, 0, 1]), ((3, 2, 2, 1), (1, 0, 2, 1)), ([1] * 4, []), ([5, 4], [2, 3])):
            counters = Counters(rounds, rests)
            wanted = self.counted(counters)
            self.same(showings_many(counters), len(wanted))
            self.same(all_showings(counters, most=len(wanted)), wanted)
            self.same(all_showings(counters=counters, most=20000), wanted)
            if len(wanted) > 1:
                self.refuses(TooGreat, {"most": len(wanted) - 1}, all_showings, counters, most=len(wanted) - 1)
                self.refuses(TooGreat, {"most": 1}, all_showings, counters, most=1)

    def test_each_one_is_the_showing_of_some_row(self):
        counters = Counters((3, 1, 2), (2, 1, 0))
        for showing in all_showings(counters, most=100):
            row = [kind for kind, many in enumerate(showing) for _ in range(many)]
            self.same(shown(counters, row), showing)

    def test_many(self):
        self.same(showings_many(counters=Counters([60] * 4, [6] * 4)), 66 ** 4)
        self.refuses(TooGreat, {"most": 20000}, all_showings, Counters([60] * 4), most=20000)
        self.same(showings_many(Counters((2, 1), (0, 2))), 6)
        self.same(all_showings(Counters((2, 1)), most=2), ((0, 0), (1, 0)))

    def test_a_round_0_is_refused(self):
        for rounds in ([0], (0, 2), [1, 0], (60, 60, 60, 0)):
            counters = Counters(rounds)
            self.keeps(Refused, "at", counters, showings_many, counters)
            self.keeps(Refused, "at", counters, all_showings, counters, most=1)

    def test_most_is_passed_by_name_alone(self):
        with self.assertRaises(TypeError):
            all_showings(Counters([2]), 9)
        with self.assertRaises(TypeError):
            all_showings(Counters([2]))


if __name__ == "__main__":
    unittest.main()
