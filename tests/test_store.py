"""Points [47], [48] and [49]: stores, that keep counters of several hands, one value and a witness, but no state."""

import random
import unittest

from onewitness.counters import Counters
from onewitness.errors import Forgets, NoDeed, NoState, Refused, TooGreat
from onewitness.lots import fold_size, fold_values, open_lot
from onewitness.machines import Machine
from onewitness.merging import merged
from onewitness.store import Store
from onewitness.witnesses import is_telling, states_left
from tests.helper import (
    CUBE, EIGHT, FORGETS, HOURS, ORDERS, PARTLY, SQUARE, SWAPS, TURN, WHEEL, Promises, any_values, counted, ends, exact,
    exchanging, points_by_length, turned,
)

THIRD = Machine([(1, 2, 0)])
TWO = Counters([2])
ATTRIBUTES = ("machine", "first", "counters", "witness", "start", "fold_row", "showings", "value", "standing", "done")


def told_of(store):
    """All that a store tells, but for what it leaves open."""
    return [exact(getattr(store, name)) for name in ATTRIBUTES] + [exact(store.whole()), exact(store.told())]


def some_counters(kinds):
    return [Counters((2, 3, 1, 4)[:kinds]), Counters((0,) * kinds), Counters((1,) * kinds),
            Counters((3, 0, 2, 1)[:kinds], (2, 6, 1, 0)[:kinds]), Counters((1, 60, 0, 2)[:kinds], (6, 0, 3, 1)[:kinds])]


def some_witness(seed, deeds):
    """A witness and a start, told by a seed; it may forget; or none."""
    source = random.Random(seed)
    if seed % 4 == 0:
        return None, source.choice([0, 3, None, True, "x", [1]])
    states = 1 + seed % 4
    return Machine([[source.randrange(states) for _ in range(states)] for _ in range(deeds)]), source.randrange(states)


class MadeTest(Promises):

    def test_attributes_at_first(self):
        for at, (machine, first) in enumerate(exchanging()):
            for hands, counters in enumerate(some_counters(machine.deeds), start=1):
                witness, start = some_witness(at, machine.deeds)
                store = Store(machine, first, counters, hands, witness=witness, start=start)
                self.assertIs(store.machine, machine)
                self.assertIs(store.counters, counters)
                self.assertIs(store.witness, witness)
                self.same([store.first, store.done, store.start], [first, 0, start])
                self.same(store.showings, ((0,) * machine.deeds,) * hands)
                self.same(store.fold_row, fold_values(machine, first, counters))
                self.same(store.value, store.fold_row[first])
                self.same(store.standing, None if witness is None else start)
                self.same(store.whole(), (0,) * machine.deeds)
                self.same(store.told(), first)

    def test_one_hand_and_eight(self):
        for hands in range(1, 9):
            self.same(Store(SWAPS, 1, Counters([2, 0]), hands).showings, ((0, 0),) * hands)
        store = Store(hands=8, counters=Counters([2, 0]), first=2, machine=SWAPS, start=1, witness=SWAPS)
        self.same([store.standing, store.start, store.value, store.first], [1, 1, 2, 2])
        self.same(Store(SWAPS, 0, Counters([2, 0]), 1, witness=SWAPS).standing, 0)
        self.same(Store(SWAPS, 0, Counters([2, 0]), 1, witness=None).standing, None)

    def test_what_stands_behind_the_star_is_told_by_name(self):
        with self.assertRaises(TypeError):
            Store(SWAPS, 0, Counters([2, 2]), 1, SWAPS)

    def test_errors_in_their_order(self):
        two = Counters([2, 2])
        for value in any_values():
            if not (type(value) is int and 0 <= value < 3):
                self.keeps(NoState, "state", value, Store, FORGETS, value, TWO, 0, witness=THIRD, start=9)
            if not (type(value) is int and 1 <= value <= 8):
                self.keeps(Refused, "at", value, Store, SWAPS, 0, two, value, witness=THIRD, start=9)
                self.keeps(Refused, "at", value, Store, SWAPS, 0, two, value)
            if not (type(value) is int and 0 <= value < 3):
                self.keeps(NoState, "state", value, Store, SWAPS, 0, two, 1, witness=FORGETS, start=value)
            # Without a witness it is not looked at.
            self.same(Store(SWAPS, 0, two, 1, start=value).standing, None)
        for counters in (TWO, Counters([2, 2, 2])):
            self.keeps(Refused, "at", counters, Store, FORGETS, 0, counters, 0, witness=THIRD, start=9)
        self.refuses(Forgets, {"deed": 0, "one": 0, "other": 1}, Store, FORGETS, 0, two, 0, witness=THIRD, start=9)
        self.refuses(Forgets, {"deed": 1, "one": 1, "other": 2}, Store, FORGETS, 1, Counters([0, 0]), 9, start=9)
        for witness in (THIRD, CUBE, Machine([[0]] * 4)):
            self.keeps(Refused, "at", witness, Store, SWAPS, 0, two, 8, witness=witness, start=9)
        for hands in (0, 9, True, False, None, -1, "1", (1,), 10 ** 30):
            self.refuses(Refused, {"at": hands}, Store, SWAPS, 0, two, hands)


class DoneTest(Promises):

    def test_at_every_moment(self):
        for seed, (machine, first) in enumerate(exchanging()):
            for counters in some_counters(machine.deeds)[seed % 2::2]:
                self.play(seed, machine, first, counters)

    def play(self, seed, machine, first, counters):
        source = random.Random(seed)
        witness, start = some_witness(seed, machine.deeds)
        hands = 1 + seed % 8
        store = Store(machine, first, counters, hands, witness=witness, start=start)
        rows, done = [[] for _ in range(hands)], []
        for _ in range(60):
            hand, deed = source.randrange(hands), source.randrange(machine.deeds)
            other = source.randrange(hands)
            if hands > 1 and source.random() < 0.25 and other != hand:
                rows[other], rows[hand] = rows[other] + rows[hand], []
                self.same(store.hand_over(hand, other), counted(counters, rows[other]))
            else:
                rows[hand].append(deed)
                done.append(deed)
                self.same(store.do(hand, deed), counted(counters, rows[hand]))
            self.check(store, rows, done)
            if len(done) % 8 == 0:
                self.refused(store)

    def check(self, store, rows, done):
        """Check a store behind deeds in their order, and by hand those that it counts."""
        machine, counters = store.machine, store.counters
        state = ends(machine, store.first, done)
        self.same([store.told(), store.done], [state, len(done)])
        self.same(store.showings, tuple(counted(counters, row) for row in rows))
        self.same(store.whole(), counted(counters, done))
        self.same(store.whole(), merged(counters, store.showings))
        self.same(store.value, store.fold_row[state])
        self.assertLess(store.value, fold_size(machine, store.first, counters))
        self.same(store.standing, None if store.witness is None else ends(store.witness, store.start, done))

    def refused(self, store):
        """Check that what is refused changes nothing."""
        before = told_of(store)
        hands, deeds = len(store.showings), store.machine.deeds
        for hand in (-1, hands, True, None, "0", (0,), 10 ** 30):
            self.refuses(Refused, {"at": hand}, store.do, hand, deeds)
            self.refuses(Refused, {"at": hand}, store.do, hand, 0)
            self.refuses(Refused, {"at": hand}, store.hand_over, hand, hands)
            self.refuses(Refused, {"at": hand}, store.hand_over, 0, hand)
        for deed in (-1, deeds, False, None, "0", [0]):
            self.refuses(NoDeed, {"deed": deed}, store.do, 0, deed)
        for hand in range(hands):
            self.refuses(Refused, {"at": hand}, store.hand_over, hand, hand)
        self.assertEqual(told_of(store), before)

    def test_any_values(self):
        store = Store(SWAPS, 0, Counters([2, 3]), 2, witness=SWAPS)
        store.do(1, 0)
        before = told_of(store)
        for value in any_values():
            if not (type(value) is int and 0 <= value < 2):
                self.keeps(Refused, "at", value, store.do, value, None)
                self.keeps(NoDeed, "deed", value, store.do, 0, value)
                self.keeps(Refused, "at", value, store.hand_over, value, value)
                self.keeps(Refused, "at", value, store.hand_over, 1, value)
        self.keeps(Refused, "at", 1, store.hand_over, one=1, other=1)
        self.assertEqual(told_of(store), before)
        self.same(store.do(deed=1, hand=1), (1, 1))
        self.same(store.hand_over(other=0, one=1), (1, 1))

    def test_handing_over_leaves_value_standing_and_done(self):
        store = Store(HOURS, 3, Counters([4, 6]), 3, witness=HOURS, start=2)
        for hand, deed in ((0, 1), (1, 1), (2, 0), (0, 1), (1, 0)):
            store.do(hand, deed)
        before = [store.value, store.standing, store.done, store.told(), store.whole()]
        self.same(store.hand_over(0, 2), (1, 2))
        self.same(store.showings, ((0, 0), (1, 1), (1, 2)))
        self.same([store.value, store.standing, store.done, store.told(), store.whole()], before)
        self.same(store.hand_over(0, 1), (1, 1))
        self.same(store.hand_over(1, 0), (1, 1))
        self.same(store.showings, ((1, 1), (0, 0), (1, 2)))
        self.same([store.value, store.standing, store.done, store.told(), store.whole()], before)

    def test_thousands_of_deeds(self):
        source = random.Random(5)
        for machine, counters in ((turned(5, 8, 4), Counters([60, 0, 7, 1], [6, 0, 3, 0])), (EIGHT, Counters([0])),
                                  (EIGHT, Counters([2]))):
            store = Store(machine, 0, counters, 8, witness=machine)
            state, many = 0, [0] * machine.deeds
            for at in range(3000):
                hand, deed = source.randrange(8), source.randrange(machine.deeds)
                store.do(hand, deed)
                state = machine.tables[deed][state]
                many[deed] += 1
                if at % 5 == 0:
                    store.hand_over(hand, (hand + 1 + source.randrange(7)) % 8)
                if at % 100 == 0:
                    self.same(store.told(), state)
            self.same([store.told(), store.standing, store.done], [state, state, 3000])
            for kind, (turn, rest) in enumerate(zip(counters.rounds, counters.rests)):
                shows = many[kind] if turn == 0 or many[kind] < rest else rest + (many[kind] - rest) % turn
                self.same(store.whole()[kind], shows)

    def test_stores_do_not_share_anything(self):
        one, other = Store(SWAPS, 0, Counters([2, 2]), 2), Store(SWAPS, 0, Counters([2, 2]), 2)
        before = told_of(other)
        kept = one.showings
        one.do(0, 1)
        self.same(kept, ((0, 0), (0, 0)))
        self.assertEqual(told_of(other), before)
        self.assertFalse(one == other)

    def test_told_ones(self):
        store = Store(WHEEL, 0, TWO, 2, witness=THIRD)
        self.same([store.do(0, 0), store.do(1, 0), store.do(1, 0)], [(1,), (1,), (0,)])
        self.same([store.showings, store.whole(), store.value, store.standing], [((1,), (0,)), (1,), 1, 0])
        self.same([store.told(), store.left(most=100), store.hand_over(0, 1)], [3, (1, 3), (1,)])
        self.same([store.showings, store.told(), store.done], [((0,), (1,)), 3, 3])


class LeftTest(Promises):

    def cases(self):
        for seed, (machine, first) in enumerate([(SWAPS, 0), (WHEEL, 1), (SQUARE, 0), (ORDERS, 2), (CUBE, 0), (TURN, 0),
                                                 (PARTLY, 1), (EIGHT, 5), (turned(3, 4, 2), 0), (turned(4, 3, 3), 1)]):
            for rounds, rests in (((2, 3, 1), ()), ((2, 1, 3), (1, 2, 0)), ((0, 2, 2), ()), ((0, 0, 1), (0, 1, 1))):
                counters = Counters(rounds[:machine.deeds], rests[:machine.deeds])
                for witness, start in (some_witness(seed + 1, machine.deeds), (None, 0), (machine, first)):
                    yield seed, machine, first, counters, witness, start

    def test_what_counters_and_standing_leave_open(self):
        for seed, machine, first, counters, witness, start in self.cases():
            source = random.Random(seed)
            store = Store(machine, first, counters, 3, witness=witness, start=start)
            for _ in range(9):
                store.do(source.randrange(3), source.randrange(machine.deeds))
            store.hand_over(0, 2)
            if witness is None:
                wanted = open_lot(machine, first, counters, store.whole(), most=20000)
                points = points_by_length([machine], [first], counters, bounds=store.whole())
                found = {states[0] for states, showing in points if showing == store.whole()}
            else:
                wanted = states_left(machine, first, counters, witness, store.whole(), store.standing, start,
                                     most=20000)
                points = points_by_length([machine, witness], [first, start], counters, bounds=store.whole())
                found = {states[0] for states, showing in points
                         if showing == store.whole() and states[1] == store.standing}
            before = told_of(store)
            self.same(self.is_search(len(points), store.left), wanted)
            self.same(wanted, tuple(sorted(found)))
            self.assertIn(store.told(), wanted)
            self.assertEqual(told_of(store), before)
            if witness is machine:
                self.assertTrue(is_telling(machine, first, counters, witness, start, most=20000))
                self.same(wanted, (store.told(),))

    def test_one_less_than_needed(self):
        store = Store(WHEEL, 0, TWO, 2, witness=THIRD)
        store.do(1, 0)
        self.same(store.left(most=12), (1, 3))
        self.refuses(TooGreat, {"most": 11}, store.left, most=11)
        self.same([store.told(), store.done], [1, 1])
        alone = Store(EIGHT, 0, Counters([0]), 1)
        for _ in range(30):
            alone.do(0, 0)
        self.same(alone.left(most=31), (6,))
        self.refuses(TooGreat, {"most": 30}, alone.left, most=30)
        with self.assertRaises(TypeError):
            alone.left(31)

    def test_one_value_fewer_is_not_enough(self):
        for machine, first in exchanging()[:12]:
            for counters in some_counters(machine.deeds)[::3]:
                fold = fold_size(machine, first, counters)
                if fold > 1 and 0 not in counters.rounds:
                    states = {}
                    for (state,), showing in points_by_length([machine], [first], counters):
                        states.setdefault(showing, set()).add(state)
                    self.assertEqual(max(len(found) for found in states.values()), fold)


if __name__ == "__main__":
    unittest.main()
