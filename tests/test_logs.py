"""Points [32], [33], [34] and [35]: logs of some kinds, what they leave open, and the fewest pairs of kinds."""

import unittest
from itertools import combinations, product

from onewitness.counters import Counters
from onewitness.errors import BadRow, Forgets, NoState, Refused
from onewitness.logs import (
    Logs, apart_pairs, fewest_pairs, log_fold, log_lots, log_rows, loose_kinds, sight_of, unseen_pairs,
)
from onewitness.lots import lots_of
from onewitness.machines import Machine, forgotten, led, reached
from tests.helper import (
    CUBE, EIGHT, FORGETS, HOURS, ORDERS, PARTLY, SQUARE, SWAPS, TURN, TWISTED, WHEEL, Promises, any_rows, any_values,
    are_numbers_below, bent, ends, exchanging, is_any_sequence, is_ascending_below, least_by_trial, loose_tables,
    many_times, turned,
)

THREE_SWAPS = Machine([(1, 0, 2), (0, 2, 1), (2, 1, 0)])


def are_rounds(value):
    return are_numbers_below(value, 61) and 1 <= len(value) <= 4


def are_lots(value, kinds):
    return is_any_sequence(value) and len(value) <= 6 and all(
        is_ascending_below(lot, kinds) and len(lot) >= 2 for lot in value)


def seen_by_hand(rounds, lots, row):
    """The sight of a row of any length."""
    in_logs = [kind for kind in range(len(rounds)) if any(kind in lot for lot in lots)]
    shown = []
    for kind, turn in enumerate(rounds):
        if kind not in in_logs:
            many = len([deed for deed in row if deed == kind])
            shown.append(many % turn if turn else many)
    return tuple(tuple(deed for deed in row if deed in lot) for lot in lots), tuple(shown)


def asked_by_hand(logs):
    """The pairs that no log has both, and by kind the round if no log has it, else 0."""
    pairs = [(one, other) for one, other in product(range(logs.kinds), repeat=2)
             if one < other and not any(one in lot and other in lot for lot in logs.lots)]
    rounds = [turn if not any(kind in lot for lot in logs.lots) else 0 for kind, turn in enumerate(logs.rounds)]
    return pairs, rounds


def some_logs(kinds):
    """Logs of so many kinds: none, few, several, of many kinds, twice the same one."""
    found = [Logs(rounds[:kinds], []) for rounds in ((0, 0, 0, 0), (1, 2, 3, 4), (4, 1, 60, 0), (2, 2, 0, 1))]
    pairs = list(combinations(range(kinds), 2))
    for rounds in ((0, 0, 0, 0), (1, 1, 1, 1), (2, 0, 3, 2), (0, 3, 1, 6)):
        found += [Logs(rounds[:kinds], [pair]) for pair in pairs]
        found += [Logs(rounds[:kinds], chosen) for chosen in list(combinations(pairs, 2))[::3]]
        found += [Logs(rounds[:kinds], lots) for lots in ([tuple(range(kinds))] * (kinds > 1), pairs, pairs[:1] * 2)]
    return found


def told():
    """Machines that exchange from a first state, with logs."""
    found = [(machine, first) for machine, first in exchanging() if machine.deeds < 4]
    found += [(turned(seed, 3 + seed % 6, 2 + seed % 3), seed % 3) for seed in range(80, 95)]
    found += [(THREE_SWAPS, 0), (Machine([(1, 0, 3, 2), (2, 3, 0, 1), (0, 2, 1, 3)]), 1)]
    return [(machine, first, logs) for machine, first in found for logs in some_logs(machine.deeds)[::2]]


class LogsTest(Promises):

    def test_attributes(self):
        logs = Logs([2, 0, 60], [[0, 2], (1, 2), [0, 1, 2]])
        self.same([logs.rounds, logs.lots, logs.kinds], [(2, 0, 60), ((0, 2), (1, 2), (0, 1, 2)), 3])
        for rounds, lots, kinds in (((1,), (), 1), ((0, 0), [], 2), ((0, 0, 1, 2), ([1, 3],), 4),
                                    ((0, 1), [(0, 1)] * 6, 2)):
            for logs in (Logs(rounds, lots), Logs(list(rounds), list(lots)), Logs(lots=tuple(lots), rounds=rounds)):
                self.same([logs.rounds, logs.lots, logs.kinds], [rounds, tuple(tuple(lot) for lot in lots), kinds])

    def test_equality(self):
        self.assertTrue(Logs((2, 0), [(0, 1)]) == Logs([2, 0], ([0, 1],)))
        self.assertFalse(Logs((2, 0), [(0, 1)]) != Logs([2, 0], ([0, 1],)))
        for other in (Logs((2, 1), [(0, 1)]), Logs((2, 0), []), Logs((2, 0), [(0, 1)] * 2), Counters((2, 0)), None,
                      ((2, 0), ((0, 1),))):
            self.assertFalse(Logs((2, 0), [(0, 1)]) == other)
            self.assertTrue(Logs((2, 0), [(0, 1)]) != other)
        self.assertFalse(Logs((0, 0, 0), [(0, 1), (1, 2)]) == Logs((0, 0, 0), [(1, 2), (0, 1)]))

    def test_lists_may_change_later(self):
        rounds, lots = [2, 3], [[0, 1]]
        logs = Logs(rounds, lots)
        rounds.append(1)
        lots[0].append(7)
        lots.append(None)
        self.same([logs.rounds, logs.lots, logs.kinds], [(2, 3), ((0, 1),), 2])

    def check_made(self, rounds, lots):
        if not are_rounds(rounds):
            self.keeps(Refused, "at", rounds, Logs, rounds, lots)
        elif not are_lots(lots, len(rounds)):
            self.keeps(Refused, "at", lots, Logs, rounds, lots)
        else:
            self.same([Logs(rounds, lots).rounds, Logs(rounds, lots).lots],
                      [tuple(rounds), tuple(tuple(lot) for lot in lots)])

    def test_bent_and_any_values(self):
        rounds, lots = (2, 0, 60, 1), [(0, 1), [1, 2, 3], (0, 3)]
        for value in [*any_values(), *bent(rounds), *bent(list(rounds))]:
            for others in (lots, (), None, [(0, 1)], [[0]], 7):
                self.check_made(value, others)
        for value in [*any_values(), *bent(lots), *bent(tuple(lots))]:
            for turns in (rounds, [1], (0, 0), (0, 0, 61), None, [True, 2]):
                self.check_made(turns, value)
        for item in any_values():
            self.check_made(rounds, [(0, 1), item])
            self.check_made(rounds, ((0, item),))
            self.check_made((1, item), ((0, 1),))

    def test_told_wrong_lots(self):
        for lots in ([(0,)], [()], [(0, 0)], [(1, 0)], [(0, True)], [(0, 3)], [(0, 1)] * 7, [(-1, 0)], [(0, 1), None],
                     "01", [(0, 2, 1)], [(0, 1, 1)], (0, 1), [((0, 1),)], None):
            self.keeps(Refused, "at", lots, Logs, (0, 1, 2), lots)
            for rounds in ((0, 1, 61), (), [0] * 5, None, (0, -1, 1), (False, 1, 1)):
                self.keeps(Refused, "at", rounds, Logs, rounds, lots)
        self.keeps(Refused, "at", LONE, Logs, (2,), LONE)


LONE = [(0, 1)]


class SightTest(Promises):

    def test_loose_kinds_and_unseen_pairs(self):
        for rounds, lots, loose, unseen in (
            ((0,), [], (0,), ()), ((2, 0), [], (0, 1), ((0, 1),)), ((2, 0), [(0, 1)], (), ()),
            ((0, 0, 2), [(0, 1)], (2,), ((0, 2), (1, 2))), ((0, 0, 0), [(0, 1), (1, 2)], (), ((0, 2),)),
            ((1, 1, 1, 1), [(0, 1, 3)] * 2, (2,), ((0, 2), (1, 2), (2, 3))), ((1,) * 4, [(0, 1, 2, 3)], (), ()),
            ((1,) * 4, [(1, 2)], (0, 3), ((0, 1), (0, 2), (0, 3), (1, 3), (2, 3))),
        ):
            self.same([loose_kinds(Logs(rounds, lots)), unseen_pairs(Logs(rounds, lots))], [loose, unseen])
        for kinds in range(1, 5):
            for logs in some_logs(kinds):
                self.same(list(unseen_pairs(logs)), asked_by_hand(logs)[0])
                self.same(loose_kinds(logs), tuple(kind for kind in range(kinds)
                                                   if not [lot for lot in logs.lots if kind in lot]))

    def test_sight(self):
        logs = Logs((0, 0, 2), [(0, 1)])
        self.same(sight_of(logs, (0, 2, 1, 2, 2, 0)), (((0, 1, 0),), (1,)))
        self.same(sight_of(logs, []), (((),), (0,)))
        self.same(sight_of(Logs((3,), []), [0] * 400), ((), (1,)))
        self.same(sight_of(Logs((0,), []), [0] * 400), ((), (400,)))
        self.same(sight_of(Logs((1, 0), [(0, 1)] * 2), (1, 0) * 200), (((1, 0) * 200,) * 2, ()))
        for kinds in range(1, 5):
            for logs in some_logs(kinds):
                for row in [*any_rows(kinds, kinds, 6), (0,) * 400]:
                    wanted = seen_by_hand(logs.rounds, logs.lots, row)
                    self.same(sight_of(logs, row), wanted)
                    self.same(sight_of(row=list(row), logs=logs), wanted)

    def test_bad_rows(self):
        logs = Logs((0, 0, 2), [(0, 1)])
        for row, at in (([0] * 401, -1), (None, -1), ("01", -1), ((0, 3), 1), ([0, 1, True], 2), ((-1, 0), 0),
                        ([0] * 399 + [None], 399), (7, -1), ({}, -1)):
            self.refuses(BadRow, {"at": at}, sight_of, logs, row)
        for value in any_values():
            if not is_any_sequence(value) or len(value) > 400:
                self.refuses(BadRow, {"at": -1}, sight_of, logs, value)
            elif not are_numbers_below(value, 3):
                self.assertRaises(BadRow, sight_of, logs, value)


class LotsTest(Promises):

    def test_against_all_partings(self):
        for machine, first, logs in told():
            pairs, rounds = asked_by_hand(logs)
            lots = log_lots(machine, first, logs)
            if len(reached(machine, first)) <= 5:
                self.same(lots, least_by_trial(machine, first, pairs, rounds), (machine.tables, logs.rounds, logs.lots))
            self.same(log_fold(machine, first, logs), len(lots[0]))
            self.same({len(lot) for lot in lots}, {log_fold(machine, first, logs)})

    def test_told_ones(self):
        self.same(log_lots(THREE_SWAPS, 0, Logs((0, 0, 2), [(0, 1)])), ((0, 1, 2),))
        self.same(log_lots(THREE_SWAPS, 2, Logs((0, 0, 0), [(0, 1, 2)])), ((0,), (1,), (2,)))
        self.same(log_lots(SWAPS, 0, Logs((0, 0), [(0, 1)])), ((0,), (1,), (2,)))
        self.same(log_lots(WHEEL, 0, Logs((2,), [])), ((0, 2), (1, 3)))
        self.same(log_lots(WHEEL, 0, Logs((0,), [])), ((0,), (1,), (2,), (3,)))
        self.same(log_lots(WHEEL, 1, Logs((1,), [])), ((0, 1, 2, 3),))
        # A kind in a log needs no round; the same kind, loose, asks one.
        self.same(log_lots(CUBE, 0, Logs((1, 1, 2), [(0, 1)])), tuple((state,) for state in range(8)))
        self.same(log_lots(CUBE, 0, Logs((1, 1, 1), [(0, 1)])), ((0, 4), (1, 5), (2, 6), (3, 7)))
        self.same(log_fold(CUBE, 0, Logs((1, 1, 1), [])), 8)
        self.same(log_fold(CUBE, 0, Logs((0, 0, 0), [])), 1)

    def test_states_that_do_not_come_are_left_out(self):
        self.same(log_lots(PARTLY, 1, Logs((0, 0), [])), ((1, 2, 3),))
        self.same(log_lots(TURN, 3, Logs((1, 1), [])), ((3,),))
        self.same(log_lots(PARTLY, 2, Logs((0, 0), [(0, 1)])), ((1,), (2,), (3,)))

    def test_without_logs_it_is_what_counters_leave_open(self):
        for machine, first in exchanging():
            for rounds in ((0, 0, 0, 0), (2, 2, 2, 2), (1, 3, 0, 2)):
                self.same(log_lots(machine, first, Logs(rounds[:machine.deeds], [])),
                          lots_of(machine, first, Counters(rounds[:machine.deeds])))

    def test_a_log_of_many_kinds_tells_what_logs_of_its_pairs_tell(self):
        for machine, first in [(one, first) for one, first in exchanging() if one.deeds > 1] + [(THREE_SWAPS, 1)]:
            for rounds in ((0, 0, 0, 0), (1, 2, 3, 0), (2, 2, 2, 2)):
                rounds = rounds[:machine.deeds]
                for many in range(2, machine.deeds + 1):
                    for lot in combinations(range(machine.deeds), many):
                        self.same(log_lots(machine, first, Logs(rounds, [lot])),
                                  log_lots(machine, first, Logs(rounds, list(combinations(lot, 2)))))

    def test_rows_of_one_sight_lead_to_one_lot(self):
        for machine, first, logs in told()[::7]:
            lots = log_lots(machine, first, logs)
            by_sight = {}
            length = 6 if machine.deeds < 3 else 4
            for many in range(length + 1):
                for row in product(range(machine.deeds), repeat=many):
                    by_sight.setdefault(seen_by_hand(logs.rounds, logs.lots, row), set()).add(ends(machine, first, row))
            for states in by_sight.values():
                self.assertTrue([lot for lot in lots if states <= set(lot)])

    def test_errors_in_their_order(self):
        unfit = Logs((2,), [])
        for call in (log_lots, log_fold, log_rows):
            for value in any_values():
                if not (type(value) is int and 0 <= value < 3):
                    self.keeps(NoState, "state", value, call, FORGETS, value, unfit)
            for logs in (unfit, Logs((2, 2, 2), [(0, 1)])):
                self.keeps(Refused, "at", logs, call, FORGETS, 0, logs)
            fit = Logs((2, 2), [(0, 1)])
            self.refuses(Forgets, {"deed": 0, "one": 0, "other": 1}, call, FORGETS, 0, fit)
            self.refuses(Forgets, {"deed": 1, "one": 1, "other": 2}, call, FORGETS, 1, fit)
            self.refuses(Forgets, {"deed": 0, "one": 0, "other": 4}, call, PARTLY, 0, fit)
            for seed in range(20):
                machine = loose_tables(seed, 4, 2)
                if forgotten(machine, 0) is not None:
                    deed, one, other = forgotten(machine, 0)
                    self.refuses(Forgets, {"deed": deed, "one": one, "other": other}, call, machine, 0, fit)


class RowsTest(Promises):

    def check_rows(self, machine, first, logs):
        found = log_rows(machine, first, logs)
        lot = [lot for lot in log_lots(machine, first, logs) if first in lot][0]
        self.assertEqual({type(found), *[type(item) for item in found], *[type(row) for state, row in found]}, {tuple})
        self.same(tuple(state for state, row in found), lot)
        sights = {seen_by_hand(logs.rounds, logs.lots, row) for state, row in found}
        self.assertEqual(len(sights), 1)
        for state, row in found:
            self.assertTrue(are_numbers_below(row, machine.deeds))
            self.assertEqual(ends(machine, first, row), state)
        return max(len(row) for state, row in found)

    def test_rows_to_the_whole_lot_of_one_sight(self):
        for machine, first, logs in told():
            self.check_rows(machine, first, logs)

    def test_machines_of_great_groups(self):
        for seed in range(12):
            for logs in (Logs((0, 0, 0, 0), [(0, 1), (2, 3)]), Logs((3, 0, 0, 7), [(1, 2)]), Logs((60, 7, 0, 59), []),
                         Logs((0, 0, 0, 1), [(0, 1), (0, 2), (1, 2)])):
                self.check_rows(turned(seed, 8, 4), seed % 8, logs)
        self.check_rows(HOURS, 3, Logs((1, 2), []))
        self.check_rows(EIGHT, 7, Logs((6,), []))

    def test_rows_that_are_long(self):
        self.assertGreater(self.check_rows(EIGHT, 7, Logs((59,), [])), 400)
        self.check_rows(HOURS, 1, Logs((59, 60), []))

    def test_one_state_alone(self):
        self.same(log_rows(SWAPS, 2, Logs((1, 1), [(0, 1)])), ((2, ()),))
        self.same(log_rows(TURN, 3, Logs((1, 1), [])), ((3, ()),))


class ApartTest(Promises):

    def test_against_both_orders(self):
        machines = [(machine, first) for machine, first in exchanging()]
        machines += [(loose_tables(seed, 2 + seed % 6, 1 + seed % 4), seed % 2) for seed in range(60)]
        for machine, first in machines + [(FORGETS, 0), (PARTLY, 0), (PARTLY, 1), (THREE_SWAPS, 1)]:
            wanted = []
            for one, other in combinations(range(machine.deeds), 2):
                if any(led(machine, state, (one, other)) != led(machine, state, (other, one))
                       for state in reached(machine, first)):
                    wanted.append((one, other))
            self.same(apart_pairs(machine, first), tuple(wanted))

    def test_told_ones(self):
        self.same(apart_pairs(THREE_SWAPS, 0), ((0, 1), (0, 2), (1, 2)))
        self.same(apart_pairs(CUBE, 5), ())
        self.same(apart_pairs(Machine([(0, 0), (1, 1)]), 0), ((0, 1),))
        # States 0, 1 and 2 do not come from 3, and what is apart there does not matter.
        self.same([apart_pairs(TURN, 0), apart_pairs(TURN, 3)], [((0, 1),), ()])
        for value in any_values():
            if not (type(value) is int and 0 <= value < 4):
                self.keeps(NoState, "state", value, apart_pairs, TURN, value)

    def test_when_no_sight_leaves_more_than_one_state_open(self):
        seen = set()
        for machine, first, logs in told():
            pairs, rounds = asked_by_hand(logs)
            alone = not [pair for pair in apart_pairs(machine, first) if pair in pairs]
            for kind, turn in enumerate(rounds):
                alone = alone and (turn == 0 or all(many_times(machine, kind, state, turn) == state
                                                    for state in reached(machine, first)))
            self.same(log_fold(machine, first, logs) == 1, alone)
            seen.add(alone)
        self.assertEqual(seen, {True, False})


class FewestPairsTest(Promises):

    def wanted(self, machine, first, rounds, size):
        pairs = list(combinations(range(machine.deeds), 2))
        right = [chosen for many in range(len(pairs) + 1) for chosen in combinations(pairs, many)
                 if log_fold(machine, first, Logs(rounds, chosen)) <= size]
        return min(right, key=lambda chosen: (len(chosen), chosen)) if right else None

    def test_against_all_lots_of_pairs(self):
        seen = set()
        machines = [one for one in exchanging()[::3]] + [(THREE_SWAPS, 0), (turned(3, 5, 4), 0), (turned(4, 8, 4), 1)]
        for machine, first in machines:
            for rounds in ((0, 0, 0, 0), (1, 2, 2, 1), (2, 3, 4, 0)):
                for size in range(1, 11):
                    wanted = self.wanted(machine, first, rounds[:machine.deeds], size)
                    self.same(fewest_pairs(machine, first, rounds[:machine.deeds], size), wanted)
                    self.same(fewest_pairs(machine, first, list(rounds[:machine.deeds]), size), wanted)
                    seen.add(None if wanted is None else len(wanted))
        self.assertGreaterEqual(seen, {None, 0, 1, 2, 3})

    def test_told_ones(self):
        for size, wanted in ((1, ((0, 1), (0, 2), (1, 2))), (2, ((0, 1), (0, 2), (1, 2))), (3, ()), (10, ())):
            self.same(fewest_pairs(THREE_SWAPS, 0, (2, 2, 2), size), wanted)
        self.same(fewest_pairs(WHEEL, 0, [2], 1), None)
        self.same(fewest_pairs(WHEEL, 0, [2], 2), ())
        self.same(fewest_pairs(SWAPS, 1, (1, 1), 1), ((0, 1),))
        self.same(fewest_pairs(CUBE, 0, (1, 2, 2), 1), ((0, 1),))
        self.same(fewest_pairs(CUBE, 0, (2, 2, 1), 1), ((0, 2),))
        self.same(fewest_pairs(CUBE, 0, (2, 1, 1), 1), ((1, 2),))
        self.same(fewest_pairs(Machine([*CUBE.tables, CUBE.tables[0]]), 0, (1, 1, 1, 1), 1), ((0, 1), (2, 3)))
        self.same(fewest_pairs(SQUARE, 0, (0, 0), 10 ** 30), ())
        self.same(fewest_pairs(ORDERS, 0, (0, 0), 2), ((0, 1),))
        self.same(fewest_pairs(TWISTED, 0, (4, 4), 1), ((0, 1),))

    def test_errors_in_their_order(self):
        for value in any_values():
            if not (type(value) is int and 0 <= value < 3):
                self.keeps(NoState, "state", value, fewest_pairs, FORGETS, value, None, 0)
            if not (are_rounds(value) and len(value) == 2):
                self.keeps(Refused, "at", value, fewest_pairs, FORGETS, 0, value, 0)
            if not (type(value) is int and value >= 1):
                self.keeps(Refused, "at", value, fewest_pairs, SWAPS, 0, (0, 0), value)
        for rounds in bent([2, 60]):
            if not (are_rounds(rounds) and len(rounds) == 2):
                self.keeps(Refused, "at", rounds, fewest_pairs, FORGETS, 0, rounds, None)
        for size in (1, 0, None, True):
            self.refuses(Forgets, {"deed": 0, "one": 0, "other": 1}, fewest_pairs, FORGETS, 0, (2, 2), size)


if __name__ == "__main__":
    unittest.main()
