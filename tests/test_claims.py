"""Points [50], [51] and [52]: claims with the papers that show them, and the numbers of a machine."""

import unittest

from onewitness.claims import claim_holds, claims_of, numbers_of
from onewitness.counters import Counters
from onewitness.errors import Forgets, NoState, Refused, TooGreat
from onewitness.leastones import fewest_standings, least_witness
from onewitness.lots import fold_size, fold_values, lot_rows, rows_hold, values_hold
from onewitness.machines import Machine, reached
from onewitness.witnesses import beaten_holds, beaten_rows, is_telling
from tests.helper import (
    CUBE, EIGHT, FORGETS, PARTLY, SQUARE, SWAPS, TURN, WHEEL, Promises, any_values, are_numbers_below, bent, exchanging,
    is_any_sequence, points_by_length, turned,
)

THIRD = Machine([(1, 2, 0)])
TWO = Counters([2])
WORDS = ("values", "rows", "witness", "beaten")
# This one forgets, and leads both states that come to unlike standings.
ASIDE = Machine([(1, 1), (0, 0)])


def told():
    """Machines within the limits of claims, with counters that find an answer soon."""
    found = []
    for machine, first in exchanging():
        if len(reached(machine, first)) <= 4 and machine.deeds <= 2:
            for rounds, rests in (((2, 2), ()), ((1, 3), ()), ((4, 1), (1, 2)), ((0, 0), ()), ((0, 2), (0, 1))):
                found.append((machine, first, Counters(rounds[:machine.deeds], rests[:machine.deeds])))
    return found


def is_machine(value):
    """Whether any value is the tables of a machine."""
    return (is_any_sequence(value) and 1 <= len(value) <= 4
            and all(is_any_sequence(table) and 1 <= len(table) <= 8 for table in value)
            and all(len(table) == len(value[0]) and are_numbers_below(table, len(table)) for table in value))


def exchange_together(machine, first, witness):
    pairs = [states for states, _ in points_by_length([machine, witness], [first, 0], Counters([1] * machine.deeds))]
    return all(len({(machine.tables[deed][state], witness.tables[deed][standing]) for state, standing in pairs})
               == len(pairs) for deed in range(machine.deeds))


def holds_by_hand(machine, first, counters, value):
    """Whether a claim holds, by the functions that look at its parts."""
    if not is_any_sequence(value, 2) or type(value[0]) is not str:
        return False
    word, paper = value
    if word == "values":
        return values_hold(machine, first, counters, paper)
    if word == "rows":
        return rows_hold(machine, first, counters, paper)
    if word == "witness":
        if not is_machine(paper) or len(paper) != machine.deeds:
            return False
        witness = Machine(paper)
        return exchange_together(machine, first, witness) and is_telling(machine, first, counters, witness, most=1)
    if word != "beaten" or not is_any_sequence(paper, 4) or not is_machine(paper[0]) or len(paper[0]) != machine.deeds:
        return False
    tables, start, one, other = paper
    if not (type(start) is int and 0 <= start < len(tables[0])):
        return False
    return beaten_holds(machine, first, counters, Machine(tables), start, (one, other))


class HoldsTest(Promises):

    def papers(self, machine, first, counters):
        """Some papers of each word, right ones where there are such."""
        finite = Counters([turn or 2 for turn in counters.rounds], counters.rests)
        still = Machine([(0,)] * machine.deeds)
        wide = Machine([[(at + 1) % 5 for at in range(5)]] * machine.deeds)
        found = [("values", fold_values(machine, first, counters)), ("values", (0,) * machine.states),
                 ("rows", lot_rows(machine, first, counters, most=20000)), ("rows", ((), ())),
                 ("witness", least_witness(machine, first, counters, most=20000)), ("witness", still.tables),
                 ("witness", machine.tables), ("witness", wide.tables), ("beaten", (still.tables, 0, (), ()))]
        for witness in (still, wide, turned(9, 3, machine.deeds), Machine([(1, 1)] * machine.deeds)):
            rows = beaten_rows(machine, first, finite, witness, most=20000)
            if rows is not None:
                found.append(("beaten", (witness.tables, 0, *rows)))
        return found

    def test_told_papers_and_such_of_another_word(self):
        seen = set()
        for machine, first, counters in told():
            for word, paper in self.papers(machine, first, counters):
                for other in (*WORDS, "VALUES", "", None, 0):
                    wanted = holds_by_hand(machine, first, counters, (other, paper))
                    for value in ((other, paper), [other, paper], [other, in_lists(paper)], (other, in_lists(paper))):
                        self.same(claim_holds(machine, first, counters, value), wanted)
                    seen.add((word, wanted))
        self.assertEqual(seen, {(word, wanted) for word in WORDS for wanted in (True, False)})

    def test_papers_bent_at_each_place(self):
        for machine, first, counters in told()[::4]:
            for claim in self.papers(machine, first, counters):
                right = 0
                for value in bent(claim):
                    wanted = holds_by_hand(machine, first, counters, value)
                    self.same(claim_holds(machine, first, counters, value), wanted, value)
                    right += wanted
                self.assertLess(right, 200)

    def test_any_value(self):
        for machine, first, counters in ((WHEEL, 0, TWO), (SWAPS, 0, Counters([0, 0])), (TURN, 3, Counters([2, 2]))):
            for value in any_values():
                self.same(claim_holds(machine, first, counters, value), False)
                for word in (*WORDS, value):
                    for claim in ((word, value), [word, value], (word, [value]), (word, (value, 0, (), ())),
                                  ("beaten", (machine.tables, value, (), (0,))),
                                  ("beaten", (machine.tables, 0, value, (0,))),
                                  ("beaten", (machine.tables, 0, (), value))):
                        self.same(claim_holds(machine, first, counters, claim),
                                  holds_by_hand(machine, first, counters, claim))

    def test_witnesses(self):
        for machine, first, counters, tables, wanted in (
            (WHEEL, 0, TWO, WHEEL.tables, True), (WHEEL, 0, TWO, THIRD.tables, False),
            (WHEEL, 0, TWO, EIGHT.tables, True), (WHEEL, 0, Counters([4]), [[0]], True),
            (WHEEL, 0, Counters([0]), [[0]], True), (WHEEL, 0, TWO, [[0]], False),
            # It begins in standing 0; what comes from other ones does not matter.
            (WHEEL, 0, TWO, [(1, 2, 3, 0, 0)], True), (WHEEL, 0, TWO, [(4, 1, 2, 3, 4)], False),
            (WHEEL, 0, TWO, [(1, 2, 3, 0), (1, 2, 3, 0)], False), (WHEEL, 0, TWO, [(1, 2, 3, 4)], False),
            (SWAPS, 2, Counters([0, 0]), SWAPS.tables, True), (SWAPS, 0, Counters([0, 0]), [(0,), (0,)], False),
            (SWAPS, 0, Counters([0, 0]), SWAPS, False), (TURN, 3, Counters([1, 1]), [[0], [0]], True),
            (PARTLY, 1, Counters([1, 1]), SWAPS.tables, False),
            (PARTLY, 1, Counters([1, 1]), [(2, 0, 1), (1, 0, 2)], True),
            (PARTLY, 1, Counters([1, 1]), [(2, 0, 1), (0, 2, 1)], False),
        ):
            self.same(claim_holds(machine, first, counters, ("witness", tables)), wanted, (machine.tables, tables))
        # A witness that forgets does not exchange together with the machine.
        self.same(claim_holds(Machine([(1, 0)]), 0, TWO, ("witness", [(1, 1)])), False)
        self.same(claim_holds(Machine([(0,)]), 0, TWO, ("witness", [(1, 1)])), False)
        self.same(claim_holds(Machine([(0,)]), 0, TWO, ("witness", [(0, 0)])), True)

    def test_beaten_by_rows(self):
        for machine, counters, paper, wanted in (
            (WHEEL, TWO, ([(1, 2, 0)], 0, (), (0,) * 6), True), (WHEEL, TWO, [[[1, 2, 0]], 2, [0] * 7, [0]], True),
            (WHEEL, TWO, ([(1, 2, 0)], 3, (), (0,) * 6), False),
            (WHEEL, TWO, ([(1, 2, 0)], True, (), (0,) * 6), False),
            (WHEEL, TWO, ([(1, 2, 0)], 0, ((), (0,) * 6)), False),
            (WHEEL, TWO, ([(1, 2, 0)], 0, (), (0,) * 6, ()), False),
            (WHEEL, TWO, ([(1, 1)], 0, (0,), (0,) * 3), True), (WHEEL, TWO, ([(1, 1)], 0, (), (0,) * 2), False),
            (WHEEL, TWO, ([(1, 1)], 1, (), (0,) * 2), True), (WHEEL, TWO, (THIRD, 0, (), (0,) * 6), False),
            (WHEEL, TWO, ([(1, 2, 0)], 0, (0,) * 2998, (0,) * 4000), True),
            (WHEEL, TWO, ([(1, 2, 0)], 0, (0,) * 2998, (0,) * 3994), False),
            (WHEEL, TWO, ([(1, 2, 0)], 0, (0,) * 2998, (0,) * 3999), False),
            (WHEEL, TWO, ([(1, 2, 0)], 0, (0,) * 2998, (0,) * 3999 + (1,)), False),
            (WHEEL, TWO, ([(1, 2, 0), (1, 2, 0)], 0, (), (0,) * 6), False),
            (SWAPS, Counters([0, 0]), (ASIDE.tables, 0, (0, 1), (1, 0)), False),
            (SWAPS, Counters([0, 0]), (ASIDE.tables, 0, (0, 1, 0), (1, 0, 0)), True),
            (SWAPS, Counters([0, 0]), (ASIDE.tables, 1, [1, 0, 0, 1], [0, 1, 0, 1]), True),
        ):
            self.same(claim_holds(machine, 0, counters, ("beaten", paper)), wanted, str(paper)[:200])
            self.same(holds_by_hand(machine, 0, counters, ["beaten", paper]), wanted, str(paper)[:200])

    def test_long_papers(self):
        self.same(claim_holds(WHEEL, 0, TWO, ("rows", ((0,) * 4000, (0,) * 3998))), True)
        self.same(claim_holds(WHEEL, 0, TWO, ("rows", ((0,) * 4000, (0,) * 3996))), False)
        self.same(claim_holds(WHEEL, 0, TWO, ("rows", ((0,) * 4000, (0,) * 3997 + (1,)))), False)
        for word in WORDS:
            self.same(claim_holds(WHEEL, 0, TWO, (word, (0,) * 4000)), False)
            self.same(claim_holds(WHEEL, 0, TWO, (word, [((0,) * 4000,) * 2] * 4000)), False)

    def test_told_ones(self):
        self.same(claim_holds(WHEEL, 0, TWO, ("rows", [(), (0, 0)])), True)
        self.same(claim_holds(WHEEL, 0, TWO, ["beaten", ([(1, 2, 0)], 0, (), (0,) * 6)]), True)
        self.same(claim_holds(value=("values", [1, 0, 0, 1]), counters=TWO, first=2, machine=WHEEL), True)
        for value in ((), ("values",), ("values", (0, 0, 1, 1), 0), "values", None, ("values", None),
                      ("values", (0, 0, 1, True)), ("rows", ((), (0, 0), ())), (("values",), (0, 0, 1, 1))):
            self.same(claim_holds(WHEEL, 0, TWO, value), False)

    def test_errors_in_their_order(self):
        right = ("witness", [(0,), (0,)])
        for call in (lambda *args: claim_holds(*args, right), lambda *args: claim_holds(*args, None),
                     lambda *args: claims_of(*args, most=1), lambda *args: numbers_of(*args, most=1)):
            for value in any_values():
                if not (type(value) is int and 0 <= value < 3):
                    self.keeps(NoState, "state", value, call, FORGETS, value, TWO)
            for counters in (TWO, Counters([2, 2, 2])):
                self.keeps(Refused, "at", counters, call, FORGETS, 0, counters)
            self.refuses(Forgets, {"deed": 0, "one": 0, "other": 1}, call, FORGETS, 0, Counters([2, 2]))
            self.refuses(Forgets, {"deed": 1, "one": 1, "other": 2}, call, FORGETS, 1, Counters([0, 2]))


def in_lists(value):
    """The value with lists in the place of tuples, but for objects."""
    return [in_lists(item) for item in value] if isinstance(value, tuple) else value


class ClaimsTest(Promises):

    def test_each_holds(self):
        for machine, first, counters in told():
            claims = claims_of(machine, first, counters, most=20000)
            self.same([type(claims), [type(claim) for claim in claims]], [tuple, [tuple] * 3])
            self.same([word for word, _ in claims], ["values", "rows", "witness"])
            for claim in claims:
                self.same(claim_holds(machine, first, counters, claim), True)
            values, rows, tables = [paper for _, paper in claims]
            self.same(values, fold_values(machine, first, counters))
            self.assertTrue(rows_hold(machine, first, counters, rows))
            self.same(len(tables[0]), fewest_standings(machine, first, counters, most=20000))
            self.assertEqual(type(rows), type(tables))

    def test_searches(self):
        for machine, first, counters in told():
            needed = 1
            while True:
                try:
                    lot_rows(machine, first, counters, most=needed)
                    least_witness(machine, first, counters, most=needed)
                    break
                except TooGreat:
                    needed += 1
            wanted = claims_of(machine, first, counters, most=20000)
            for most in range(1, min(needed, 60) + 1):
                try:
                    self.same(claims_of(machine, first, counters, most=most), wanted)
                except TooGreat as error:
                    self.same(error.most, most)
                    self.assertLess(most, needed)

    def test_told_ones(self):
        self.same(claims_of(WHEEL, 0, TWO, most=500)[0], ("values", (0, 0, 1, 1)))
        self.same(claims_of(machine=WHEEL, first=0, counters=Counters([0]), most=500),
                  (("values", (0, 0, 0, 0)), ("rows", ((),)), ("witness", ((0,),))))


class NumbersTest(Promises):

    def test_against_the_parts(self):
        seen = set()
        for machine, first, counters in told():
            fold, standings, states = numbers_of(machine, first, counters, most=20000)
            self.same(numbers_of(machine, first, counters, most=20000),
                      (fold_size(machine, first, counters), fewest_standings(machine, first, counters, most=20000),
                       len(reached(machine, first))))
            self.assertEqual(states % fold, 0)
            self.assertTrue(fold <= standings <= states)
            seen.add((fold < standings, standings < states))
        self.assertGreaterEqual(seen, {(False, False), (False, True), (True, False)})

    def test_search(self):
        for machine, first, counters in told()[::3]:
            wanted = numbers_of(machine, first, counters, most=20000)
            for most in (1, 2, 3, 5, 9, 17):
                try:
                    self.same(numbers_of(machine, first, counters, most=most), wanted)
                except TooGreat as error:
                    self.same(error.most, most)
                    self.assertRaises(TooGreat, fewest_standings, machine, first, counters, most=most)

    def test_told_ones(self):
        self.same(numbers_of(WHEEL, 0, TWO, most=500), (2, 4, 4))
        self.same(numbers_of(SWAPS, 0, Counters([0, 0]), most=500), (3, 3, 3))
        self.same(numbers_of(machine=TURN, first=3, counters=Counters([1, 1]), most=1), (1, 1, 1))
        self.same(numbers_of(SQUARE, 0, Counters([0, 0]), most=500), (2, 4, 4))
        self.same(numbers_of(CUBE, 0, Counters([2, 2, 2]), most=500), (1, 1, 8))


if __name__ == "__main__":
    unittest.main()
