"""Points [53] and [54]: a desk, by which a store is led in lines."""

import random
import unittest

from onewitness.counters import Counters
from onewitness.desk import Desk
from onewitness.lots import fold_size
from onewitness.machines import Machine
from onewitness.store import Store
from tests.helper import CUBE, EIGHT, HOURS, SWAPS, TURN, WHEEL, Promises, any_values, turned
from tests.test_store import told_of

ASKED = ("whole", "told", "value", "standing", "done", "fold")


def stores():
    return [
        Store(WHEEL, 0, Counters([2]), 2, witness=Machine([(1, 2, 0)])), Store(WHEEL, 0, Counters([2]), 2),
        Store(SWAPS, 1, Counters([0, 2], [0, 6]), 1, witness=SWAPS, start=2), Store(CUBE, 5, Counters([1, 2, 0]), 8),
        Store(HOURS, 0, Counters([60, 0], [6, 0]), 3, witness=HOURS), Store(TURN, 3, Counters([0, 0]), 4),
        Store(turned(5, 8, 4), 2, Counters([3, 1, 4, 1], [5, 2, 6, 0]), 8, witness=turned(6, 3, 4)),
    ]


def wanted_answers(store):
    """By line what a desk says of a store."""
    found = {
        "whole": "shows " + " ".join(str(many) for many in store.whole()), "told": "state " + str(store.told()),
        "value": "value " + str(store.value), "done": "done " + str(store.done),
        "fold": "fold " + str(fold_size(store.machine, store.first, store.counters)),
        "standing": "standing " + ("none" if store.witness is None else str(store.standing)),
    }
    return found


class DeskTest(Promises):

    def test_it_leads_this_very_store(self):
        for store in stores():
            self.assertIs(Desk(store).store, store)
            self.assertIs(Desk(store=store).store, store)

    def test_lines_against_the_store_itself(self):
        for seed, (store, twin) in enumerate(zip(stores(), stores())):
            source, desk = random.Random(seed), Desk(store)
            hands, deeds = len(store.showings), store.machine.deeds
            for _ in range(80):
                hand, other, deed = source.randrange(hands), source.randrange(hands), source.randrange(deeds)
                if source.random() < 0.3 and hand != other:
                    said, showing = desk.say(f"over {hand} {other}"), twin.hand_over(hand, other)
                else:
                    said, showing = desk.say(f"do {hand} {deed}"), twin.do(hand, deed)
                self.same(said, "shows " + " ".join(str(many) for many in showing))
                self.assertEqual(told_of(store), told_of(twin))
                for line, wanted in wanted_answers(twin).items():
                    self.same(desk.say(line=line), wanted)
                self.assertEqual(told_of(store), told_of(twin))

    def test_it_sees_what_is_done_elsewhere(self):
        store = Store(WHEEL, 0, Counters([2]), 2, witness=EIGHT)
        one, other = Desk(store), Desk(store)
        store.do(1, 0)
        self.same([one.say("told"), one.say("done"), one.say("whole"), one.say("standing")],
                  ["state 1", "done 1", "shows 1", "standing 1"])
        self.same(other.say("do 0 0"), "shows 1")
        store.hand_over(0, 1)
        self.same([one.say("told"), one.say("value"), one.say("whole"), one.say("over 1 0")],
                  ["state 2", "value 1", "shows 0", "shows 0"])
        self.same([store.told(), store.done, store.standing, store.showings], [2, 2, 2, ((0,), (0,))])

    def wrong_lines(self, store):
        hands, deeds = len(store.showings), store.machine.deeds
        last, end = hands - 1, deeds - 1
        lines = [
            "", " ", "?", "do", "do 0", "do 0 0 0", "do  0 0", "do 0  0", " do 0 0", "do 0 0 ", "do 0 0\n", "\ndo 0 0",
            "do\t0 0", "do 0\t0", "DO 0 0", "Do 0 0", "do 00 0", "do 0 00", "do 0 01", "do 01 0", "do +0 0", "do 0 -0",
            "do -1 0", "do 0 -1", "do 0 0.0", "do 0 zero", "do 0 \u0660", "do \u0660 0", "do 0 \xb2", "do 0 \uff10",
            f"do {hands} 0", f"do 0 {deeds}", f"do {last}0 {end}9", "do 0 9" + "9" * 5000, "do " + "1" * 5000 + " 0",
            "do 0 " + "0" * 5000, "over", "over 0", "over 0 0", f"over {last} {last}", f"over 0 {hands}",
            f"over {hands} 0", f"over 0  {last}", f"over 00 {last}", f"over 0 0{last}", f"over 0 {last} ",
            f"over 0 {last} 0", "over 0 -1",
            "overs 0 1", "hand_over 0 1", "done 0 0", "told 0 0", "whole 0", "told 0", "told ", " told", "tell",
            "TOLD", "wholes", "whole\n", "value 1", "values", "standing none", "done 7", "fold 3", "fold ", "left",
            "state", "say told", "told told", "told told told", "shows", "none", "0", "0 1", "0 0 0", "__init__",
            "told.told", "\ud800", "done\n", "done\u2028", "do 0 0 do 0 0", "do 0 0\ndo 0 0", "whole " + "0" * 4000,
        ]
        return lines

    def test_what_is_no_such_line(self):
        for store in stores():
            store.do(0, 0)
            desk = Desk(store)
            before = told_of(store)
            for line in self.wrong_lines(store):
                self.same(desk.say(line), "?", line)
            for value in any_values():
                self.same(desk.say(value), "?")
                for line in (["do 0 0"], ("told",), [value, 0, 0], ("do", 0, 0), ["do", "0", "0"]):
                    self.same(desk.say(line), "?")
            self.assertEqual(told_of(store), before)

    def test_words_with_numbers_of_other_lines(self):
        store = Store(SWAPS, 0, Counters([2, 3]), 2)
        desk = Desk(store)
        for line in ("over 0 2", "over 2 0", "do 2 0", "do 0 2"):
            self.same(desk.say(line), "?")
        self.same([desk.say("do 1 1"), desk.say("over 1 0"), desk.say("over 0 1")], ["shows 0 1"] * 3)
        wide = Store(EIGHT, 0, Counters([0]), 8)
        self.same([Desk(wide).say("over 7 6"), Desk(wide).say("do 7 0"), Desk(wide).say("do 0 7")],
                  ["shows 0", "shows 1", "?"])

    def test_told_ones(self):
        desk = Desk(Store(WHEEL, 0, Counters([2]), 2))
        lines = ("do 0 0", "do 1 0", "over 0 1", "whole", "told", "value", "standing", "fold", "do 2 0")
        self.same([desk.say(line) for line in lines],
                  ["shows 1", "shows 1", "shows 0", "shows 0", "state 2", "value 1", "standing none", "fold 2", "?"])
        desk = Desk(Store(WHEEL, 0, Counters([0]), 1, witness=EIGHT))
        for many in range(1, 12):
            self.same(desk.say("do 0 0"), f"shows {many}")
            self.same([desk.say(line) for line in ("told", "value", "standing", "done", "fold")],
                      [f"state {many % 4}", "value 0", f"standing {many % 8}", f"done {many}", "fold 1"])


if __name__ == "__main__":
    unittest.main()
