"""Points [45] and [46]: slips of counters, which of them are noticed, and what hidden ones do."""

import unittest
from itertools import product

from onewitness.counters import Counters, check_showing
from onewitness.errors import BadShowing, Forgets, NoState, Refused, TooGreat
from onewitness.machines import Machine, forgotten
from onewitness.slips import harmless_step, hidden_step, is_hidden, slip_does, slip_holds, slip_paper, slipped
from onewitness.witnesses import is_telling
from tests.helper import (
    CUBE, EIGHT, FORGETS, HOURS, ORDERS, PARTLY, SQUARE, SWAPS, TURN, WHEEL, Promises, any_rows, any_values,
    are_numbers_below, bent, counted, ends, exchanging, is_any_sequence, loose_tables, points_by_length, turned,
)

HALVES = Machine([(1, 0)])
FOURS = Counters((4,))
ONE_WAY = Machine([(1, 1)])


def pairs_that_come(counters, witness, start):
    """The pairs of a standing and counts to which rows lead."""
    return {(states[0], showing) for states, showing in points_by_length([witness], [start], counters)}


def with_slip(counters, showing, slip):
    return tuple((many + off) % turn for many, off, turn in zip(showing, slip, counters.rounds))


def is_slip(value, kinds):
    return is_any_sequence(value, kinds) and all(type(item) is int for item in value)


def told():
    """Counters, a witness that exchanges from a start, and this start."""
    found = [
        (FOURS, HALVES, 0), (Counters((6,)), WHEEL, 2), (Counters((3,)), HALVES, 1), (Counters((1,)), EIGHT, 0),
        (Counters((60,)), EIGHT, 3), (Counters((2, 3)), SWAPS, 0), (Counters((4, 4)), SQUARE, 1),
        (Counters((1, 1)), SWAPS, 2), (Counters((2, 2, 2)), CUBE, 5), (Counters((4, 6)), HOURS, 0),
        (Counters((2, 2)), PARTLY, 1), (Counters((3, 2)), ORDERS, 0), (Counters((2, 2)), TURN, 3),
        (Counters((2, 1, 3, 2)), Machine([(1, 0), (0, 1), (1, 0), (0, 1)]), 0), (FOURS, Machine([(0,)]), 0),
        (FOURS, Machine([(0, 1)]), 1), (FOURS, ONE_WAY, 1),
    ]
    for seed in range(24):
        kinds = 1 + seed % 3
        rounds = [(4, 2, 6), (3, 6, 1), (2, 4, 5), (8, 2, 2)][seed % 4][:kinds]
        found.append((Counters(rounds), turned(seed + 400, 1 + seed % 5, kinds), seed % (1 + seed % 5)))
    return found


def few_slips(counters):
    """Slips below and above the rounds, great ones, and one by one those of all kinds."""
    rounds = counters.rounds
    small = [slip for slip in product(*[range(-1, min(turn, 4)) for turn in rounds])][:60]
    great = [tuple((10 ** 18 if at % 2 else -10 ** 18) + at + turn for at, turn in enumerate(rounds)),
             tuple(turn * 10 ** 17 for turn in rounds), tuple(-turn for turn in rounds),
             (10 ** 18,) * len(rounds), (0,) * len(rounds)]
    return small + great


class SlippedTest(Promises):

    def test_modulo_the_rounds(self):
        for counters, witness, start in told():
            for row in any_rows(start, len(counters.rounds), 3):
                showing = counted(counters, row)
                for slip in few_slips(counters):
                    wanted = with_slip(counters, showing, slip)
                    self.same(slipped(counters, showing, slip), wanted)
                    self.same(slipped(slip=list(slip), showing=list(showing), counters=counters), wanted)
        self.same(slipped(FOURS, (3,), (2,)), (1,))
        self.same(slipped(FOURS, (3,), (-4,)), (3,))
        self.same(slipped(Counters((3, 60)), [0, 59], [10 ** 18, -10 ** 18]), (10 ** 18 % 3, (59 - 10 ** 18) % 60))

    def test_errors_in_their_order(self):
        for counters in (Counters((0,)), Counters((4,), (1,)), Counters((1,), (6,)), Counters((2, 0)),
                         Counters((2, 2), (0, 1))):
            self.keeps(Refused, "at", counters, slipped, counters, None, None)
        for value, at in ((None, -1), ((0,), -1), ((0, 3), 1), ((2, 0), 0), ((True, 0), 0), ("00", -1), ((0, -1), 1)):
            self.refuses(BadShowing, {"at": at}, slipped, Counters((2, 3)), value, None)
        for value in any_values():
            if not is_slip(value, 2):
                self.keeps(Refused, "at", value, slipped, Counters((2, 3)), (1, 2), value)
            try:
                check_showing(Counters((2, 3)), value)
            except BadShowing as error:
                self.refuses(BadShowing, {"at": error.at}, slipped, Counters((2, 3)), value, value)
        for value in bent((0, -5)):
            if is_slip(value, 2):
                slipped(Counters((2, 3)), (0, 0), value)
            else:
                self.keeps(Refused, "at", value, slipped, Counters((2, 3)), (0, 0), value)


class HiddenTest(Promises):

    def test_against_all_pairs_that_come(self):
        seen = []
        for counters, witness, start in told():
            pairs = pairs_that_come(counters, witness, start)
            for slip in few_slips(counters):
                hidden = [(standing, with_slip(counters, showing, slip)) in pairs for standing, showing in pairs]
                # Behind all rows, or behind none.
                self.assertEqual(len(set(hidden)), 1)
                self.same(is_hidden(counters, witness, slip, start), hidden[0])
                self.same(is_hidden(counters, witness, list(slip), start=start), hidden[0])
                self.check_paper(counters, witness, slip, start, hidden[0])
                seen.append(hidden[0])
        self.assertTrue(100 < seen.count(True) < len(seen) - 100)

    def check_paper(self, counters, witness, slip, start, hidden):
        paper = slip_paper(counters, witness, slip, start)
        if not hidden:
            self.same(paper, None)
            return
        word, one, other = paper
        self.same((type(paper), word, type(one), type(other)), (tuple, "hidden", tuple, tuple))
        kinds = len(counters.rounds)
        self.assertTrue(are_numbers_below(one, kinds) and are_numbers_below(other, kinds))
        self.assertLessEqual(max(len(one), len(other)), 4000)
        self.assertEqual(with_slip(counters, counted(counters, one), slip), counted(counters, other))
        self.assertEqual(ends(witness, start, one), ends(witness, start, other))
        for value in (paper, list(paper), ["hidden", list(one), other]):
            self.same(slip_holds(counters, witness, slip, value, start), True)

    def test_two_hidden_ones_together(self):
        for counters, witness, start in told()[::3]:
            slips = [slip for slip in few_slips(counters) if is_hidden(counters, witness, slip, start)][:12]
            for one, other in product(slips, repeat=2):
                both = tuple(few + more for few, more in zip(one, other))
                self.same(is_hidden(counters, witness, both, start), True)

    def test_start_is_0_if_none_is_told(self):
        apart = Machine([(0, 2, 1)])
        self.same([is_hidden(FOURS, apart, (1,)), is_hidden(FOURS, apart, (1,), 1)], [True, False])
        self.same(slip_paper(FOURS, apart, (1,), 2), None)
        self.same(slip_paper(FOURS, apart, (1,))[0], "hidden")
        self.same(slip_holds(FOURS, apart, (1,), ("hidden", (0,), (0, 0))), True)
        self.same(slip_holds(FOURS, apart, (1,), ("hidden", (0,), (0, 0)), 1), False)
        self.same([hidden_step(FOURS, apart, 0), hidden_step(FOURS, apart, 0, start=2)], [1, 2])

    def test_told_ones(self):
        self.same(is_hidden(FOURS, HALVES, (-2,)), True)
        self.same(is_hidden(FOURS, HALVES, (10 ** 18 + 1,)), False)
        self.same(is_hidden(Counters((3,)), HALVES, (1,)), True)
        self.same(is_hidden(Counters((1,)), HALVES, (7,)), True)
        self.same(slip_paper(FOURS, HALVES, (3,)), None)
        # Each of two kinds alone is noticed, both together are not.
        together = Machine([(1, 0), (1, 0)])
        two = Counters((2, 2))
        self.same([is_hidden(two, together, slip) for slip in ((0, 0), (1, 0), (0, 1), (1, 1))],
                  [True, False, False, True])

    def test_paper_of_4000_pairs(self):
        counters, witness = Counters((50, 40)), Machine([(1, 0), (0, 1)])
        self.assertEqual(len(pairs_that_come(counters, witness, 0)), 2000)
        self.check_paper(counters, witness, (48, 39), 0, True)
        counters = Counters((25, 40))
        self.assertEqual(len(pairs_that_come(counters, Machine([(1, 2, 3, 0), (0, 1, 2, 3)]), 0)), 4000)
        self.check_paper(counters, Machine([(1, 2, 3, 0), (0, 1, 2, 3)]), (24, 39), 0, True)


class HoldsTest(Promises):

    def holds_by_hand(self, counters, witness, slip, value, start):
        kinds = len(counters.rounds)
        if not is_any_sequence(value, 3) or type(value[0]) is not str or value[0] != "hidden":
            return False
        one, other = value[1:]
        if not are_numbers_below(one, kinds) or not are_numbers_below(other, kinds):
            return False
        return (with_slip(counters, counted(counters, one), slip) == counted(counters, other)
                and ends(witness, start, one) == ends(witness, start, other))

    def test_all_small_rows(self):
        for counters, witness, start in told()[:10]:
            kinds = len(counters.rounds)
            rows = [row for many in range(4) for row in product(range(kinds), repeat=many)][:25]
            for slip in few_slips(counters)[::9]:
                for one, other in product(rows, repeat=2):
                    value = ("hidden", list(one), other)
                    self.same(slip_holds(counters, witness, slip, value, start),
                              self.holds_by_hand(counters, witness, slip, value, start))

    def test_bent_and_any_values(self):
        for counters, witness, start in told():
            for slip in few_slips(counters)[-3:]:
                paper = slip_paper(counters, witness, slip, start)
                for value in [*bent(paper or ("hidden", (0,), (0, 0))), *any_values(), ("noticed", (), ()),
                              ("hidden", (), ()), ("hidden", ()), ("hidden", (), (), ()), (True, (), ()),
                              ("hidden", "", ()), ((), (), "hidden")]:
                    self.same(slip_holds(counters, witness, slip, value, start),
                              self.holds_by_hand(counters, witness, slip, value, start))
        for value in any_values():
            for paper in ((value, (), ()), ("hidden", value, (0,)), ("hidden", (0,), value), ["hidden", (value,), ()]):
                self.same(slip_holds(FOURS, HALVES, (0,), paper), self.holds_by_hand(FOURS, HALVES, (0,), paper, 0))

    def test_long_rows(self):
        self.same(slip_holds(FOURS, HALVES, (2,), ("hidden", (0,) * 4000, (0,) * 3998)), True)
        self.same(slip_holds(FOURS, HALVES, (2,), ("hidden", (0,) * 4000, (0,) * 3999)), False)
        self.same(slip_holds(FOURS, HALVES, (2,), ("hidden", (0,) * 4000, (0,) * 3997 + (1,))), False)
        self.same(slip_holds(FOURS, HALVES, (2,), ("hidden", (), [0, 0])), True)
        self.same(slip_holds(FOURS, HALVES, (2,), ("hidden", (), (0,))), False)

    def test_where_too_many_pairs_come(self):
        wide = Counters((60, 60, 60))
        still = Machine([(0,)] * 3)
        self.same(slip_holds(wide, still, (1, 0, 59), ("hidden", (2,), (0,))), True)
        self.same(slip_holds(wide, still, (1, 0, 58), ("hidden", (2,), (0,))), False)


class StepTest(Promises):

    def test_its_multiples_and_no_others_are_hidden(self):
        steps = set()
        for counters, witness, start in told():
            for kind, turn in enumerate(counters.rounds):
                step = hidden_step(counters, witness, kind, start)
                self.assertEqual((type(step), turn % step), (int, 0))
                for many in [*range(-turn, 2 * turn + 1), 10 ** 18, -10 ** 18 + 1]:
                    slip = [0] * len(counters.rounds)
                    slip[kind] = many
                    self.same(is_hidden(counters, witness, slip, start), many % step == 0)
                steps.add(step)
        self.assertGreaterEqual(steps, {1, 2, 3, 4})

    def test_told_ones(self):
        self.same(hidden_step(FOURS, HALVES, 0), 2)
        self.same(hidden_step(FOURS, WHEEL, 0), 4)
        self.same(hidden_step(Counters((3,)), HALVES, 0), 1)
        self.same(hidden_step(counters=Counters((60,)), witness=EIGHT, kind=0, start=5), 4)
        # Two kinds lead standings alike: what is one too many of the one is one too few of the other.
        self.same(hidden_step(Counters((4, 6)), Machine([(1, 0), (1, 0)]), 1), 2)


class ErrorsTest(Promises):

    def calls(self):
        """The functions of counters and a witness, with a slip or a kind that is wrong, and its start."""
        return (
            (None, lambda counters, witness, at, start: is_hidden(counters, witness, at, start)),
            (None, lambda counters, witness, at, start: slip_paper(counters, witness, at, start)),
            (None, lambda counters, witness, at, start: slip_holds(counters, witness, at, None, start)),
            (None, lambda counters, witness, at, start: hidden_step(counters, witness, at, start)),
        )

    def of_machines(self):
        return (lambda machine, first, *others: slip_does(machine, first, *others),
                lambda machine, first, *others: harmless_step(machine, first, *others))

    def test_counters_and_witness(self):
        wide = Counters((60, 60, 60, 60))
        for wrong, call in self.calls():
            for counters in (Counters((0,)), Counters((4,), (1,)), Counters((2, 0)), Counters((2, 2), (0, 6))):
                self.keeps(Refused, "at", counters, call, counters, SWAPS, wrong, 9)
                self.keeps(Refused, "at", counters, call, counters, HALVES, wrong, 9)
            for counters, witness in ((FOURS, SWAPS), (Counters((2, 2)), HALVES), (wide, SWAPS)):
                self.keeps(Refused, "at", witness, call, counters, witness, wrong, 9)
            for value in any_values():
                if not (type(value) is int and 0 <= value < 2):
                    self.keeps(NoState, "state", value, call, FOURS, ONE_WAY, wrong, value)
            self.keeps(Refused, "at", ONE_WAY, call, FOURS, ONE_WAY, wrong, 0)
            self.keeps(Refused, "at", FORGETS, call, Counters((2, 2)), FORGETS, wrong, 1)

    def test_slips_and_kinds(self):
        wide, still = Counters((60, 60, 60)), Machine([(0,)] * 3)
        for value in [*any_values(), *bent((0, 1, -1)), (0, 0), [1, 2, None], (0, True, 0)]:
            if not is_slip(value, 3):
                for call in (is_hidden, slip_paper):
                    self.keeps(Refused, "at", value, call, wide, still, value)
                self.keeps(Refused, "at", value, slip_holds, wide, still, value, ("hidden", (), ()))
                self.keeps(Refused, "at", value, slip_does, CUBE, 0, wide, still, value)
            if not (type(value) is int and 0 <= value < 3):
                self.keeps(Refused, "at", value, hidden_step, wide, still, value)
                self.keeps(Refused, "at", value, harmless_step, CUBE, 0, wide, still, value)

    def test_4000_pairs_and_more(self):
        two = Machine([(1, 0)] * 3)
        for rounds, witness, many in (
            ((40, 50, 2), Machine([(0,)] * 3), 4000), ((20, 50, 4), two, 4000), ((40, 50, 3), two, 12000),
            ((40, 25, 1), Machine([(1, 2, 3, 0)] + [(0, 1, 2, 3)] * 2), 1000), ((23, 29, 3), two, 4002),
            ((37, 6, 9), two, 3996), ((25, 20, 1), Machine([CUBE.tables[0], *[list(range(8))] * 2]), 1000),
        ):
            counters = Counters(rounds)
            self.assertEqual(len(pairs_that_come(counters, witness, 0)), many)
            for call in (lambda: is_hidden(counters, witness, (1, 0, 0)), lambda: hidden_step(counters, witness, 2),
                         lambda: slip_paper(counters, witness, (0, 0, 0))):
                if many > 4000:
                    self.refuses(TooGreat, {"most": 4000}, call)
                else:
                    call()
            # Ahead of Refused(witness): the witness does not tell here.
            for call, at in ((slip_does, (0, 0, 0)), (harmless_step, 0)):
                if many > 4000:
                    self.refuses(TooGreat, {"most": 4000}, call, turned(7, 5, 3), 0, counters, witness, at)
                elif is_telling(turned(7, 5, 3), 0, counters, witness, most=1):
                    call(turned(7, 5, 3), 0, counters, witness, at)
                else:
                    self.keeps(Refused, "at", witness, call, turned(7, 5, 3), 0, counters, witness, at)

    def test_machines_first(self):
        for call in self.of_machines():
            for value in any_values():
                if not (type(value) is int and 0 <= value < 3):
                    self.keeps(NoState, "state", value, call, FORGETS, value, Counters((0,)), HALVES, None, 9)
            for counters in (FOURS, Counters((2, 2, 2)), Counters((0,)), Counters((0, 0)), Counters((2, 2), (0, 1)),
                             Counters((60, 0))):
                self.keeps(Refused, "at", counters, call, FORGETS, 0, counters, HALVES, None, 9)
            two = Counters((2, 2))
            self.refuses(Forgets, {"deed": 0, "one": 0, "other": 1}, call, FORGETS, 0, two, HALVES, None, 9)
            self.refuses(Forgets, {"deed": 1, "one": 1, "other": 2}, call, FORGETS, 1, two, HALVES, None, 9)
            self.keeps(Refused, "at", HALVES, call, SWAPS, 0, two, HALVES, None, 9)
            for value in any_values():
                if not (type(value) is int and 0 <= value < 3):
                    self.keeps(NoState, "state", value, call, SWAPS, 0, two, FORGETS, None, value)
            self.keeps(Refused, "at", FORGETS, call, SWAPS, 0, two, FORGETS, None, 0)
            self.refuses(Refused, {"at": None}, call, SWAPS, 0, two, Machine([(0,), (0,)]), None, 0)
        still = Machine([(0,), (0,)])
        for slip in ((0, 0), (1, 0), [10 ** 18, -1]):
            self.keeps(Refused, "at", still, slip_does, SWAPS, 0, Counters((2, 2)), still, slip)
        for kind in (0, 1):
            self.keeps(Refused, "at", still, harmless_step, SWAPS, 0, Counters((2, 2)), still, kind)

    def test_witnesses_that_exchange_from_the_start_alone(self):
        for seed in range(40):
            witness = loose_tables(seed, 5, 1)
            for start in range(5):
                if forgotten(witness, start) is None:
                    hidden_step(FOURS, witness, 0, start)
                else:
                    self.keeps(Refused, "at", witness, hidden_step, FOURS, witness, 0, start)


def with_machines():
    """Machines that exchange, with counters and a witness that tells."""
    found = [(WHEEL, 0, FOURS, HALVES, 0), (WHEEL, 2, Counters((2,)), WHEEL, 1), (WHEEL, 0, Counters((2,)), EIGHT, 3),
             (SWAPS, 0, Counters((2, 2)), SWAPS, 0), (SWAPS, 1, Counters((2, 2)), SWAPS, 2),
             (TURN, 3, Counters((2, 2)), HALF_TURN, 0), (EIGHT, 0, Counters((24,)), Machine([(1, 2, 0)]), 0),
             (EIGHT, 1, Counters((60,)), EIGHT, 7), (Machine([(0, 1)]), 1, FOURS, Machine([(0,)]), 0),
             (PARTLY, 1, Counters((2, 2)), SWAPS, 2), (Machine([(1, 0)]), 0, Counters((8,)), WHEEL, 0),
             (HALF_TURN, 0, Counters((4, 4)), HALF_TURN, 0)]
    for machine, first in exchanging():
        if machine.deeds < 4:
            rounds = ((2, 4, 3), (4, 2, 2), (6, 3, 2))[first % 3][:machine.deeds]
            found.append((machine, first, Counters(rounds), machine, first))
    for seed in range(60):
        machine, witness = turned(seed, 2 + seed % 3, 1 + seed % 2), turned(seed + 70, 2 + seed % 4, 1 + seed % 2)
        counters = Counters(((4, 6), (2, 2), (12, 4), (3, 6))[seed % 4][:machine.deeds])
        if is_telling(machine, 0, counters, witness, most=1):
            found.append((machine, 0, counters, witness, 0))
    return [case for case in found if is_telling(*case, most=1)]


HALF_TURN = Machine([(1, 0), (1, 0)])


class DoesTest(Promises):

    def does_by_rows(self, machine, first, counters, witness, slip, start):
        """What a slip does, behind each of all triples that come; one word."""
        triples = points_by_length([machine, witness], [first, start], counters)
        told_by = {(standing, showing): state for (state, standing), showing in triples}
        self.assertEqual(len(told_by), len(triples))
        words = set()
        for (state, standing), showing in triples:
            there = (standing, with_slip(counters, showing, slip))
            if there not in told_by:
                words.add("noticed")
            else:
                words.add("harmless" if told_by[there] == state else "wrong")
        self.assertEqual(len(words), 1)
        return words.pop()

    def test_behind_all_rows(self):
        seen = []
        for machine, first, counters, witness, start in with_machines():
            for slip in few_slips(counters):
                wanted = self.does_by_rows(machine, first, counters, witness, slip, start)
                self.same(slip_does(machine, first, counters, witness, slip, start), wanted)
                self.same(is_hidden(counters, witness, slip, start), wanted != "noticed")
                seen.append(wanted)
        for word in ("noticed", "harmless", "wrong"):
            self.assertGreater(seen.count(word), 50)

    def test_steps(self):
        seen = set()
        for machine, first, counters, witness, start in with_machines():
            for kind, turn in enumerate(counters.rounds):
                step = harmless_step(machine, first, counters, witness, kind, start)
                hidden = hidden_step(counters, witness, kind, start)
                self.assertEqual((type(step), turn % step, step % hidden), (int, 0, 0))
                for many in [*range(-turn, turn + 1), 10 ** 18]:
                    slip = [0] * len(counters.rounds)
                    slip[kind] = many
                    does = slip_does(machine, first, counters, witness, slip, start)
                    self.same(does == "harmless", many % step == 0)
                seen.add((hidden, step))
        self.assertGreaterEqual(seen, {(1, 1), (2, 2), (2, 4)})

    def test_told_ones(self):
        self.same([slip_does(WHEEL, 0, FOURS, HALVES, (many,)) for many in range(4)],
                  ["harmless", "noticed", "wrong", "noticed"])
        self.same(harmless_step(WHEEL, 0, FOURS, HALVES, 0), 4)
        self.same(harmless_step(machine=WHEEL, first=0, counters=FOURS, witness=HALVES, kind=0, start=1), 4)
        self.same(slip_does(machine=WHEEL, first=0, counters=FOURS, witness=HALVES, slip=[-2], start=1), "wrong")
        self.same(slip_does(Machine([(0, 1)]), 1, FOURS, Machine([(0,)]), (3,)), "harmless")


if __name__ == "__main__":
    unittest.main()
