"""A store: hands that count their deeds apart, one value, and a witness; the state itself is not kept."""

from onewitness.basics import is_below, is_number
from onewitness.counters import shown_on
from onewitness.errors import Refused
from onewitness.lots import fold_values, lot_with, lots_of, open_lot
from onewitness.machines import need_deed, need_witness
from onewitness.merging import merged
from onewitness.settling import moved_by
from onewitness.witnesses import states_left

HANDS_MOST = 8


class Store:
    """What several hands count, and beside it one value and where a witness stands, if there is one."""

    def __init__(self, machine, first, counters, hands, *, witness=None, start=0):
        # Lots hang on what never changes: they are found once, and not anew by each deed.
        self._lots = lots_of(machine, first, counters)
        if not is_number(hands) or not 1 <= hands <= HANDS_MOST:
            raise Refused(hands)
        if witness is not None:
            need_witness(machine.deeds, witness, start)
        self.machine = machine
        self.first = first
        self.counters = counters
        self.witness = witness
        self.start = start
        self.fold_row = fold_values(machine, first, counters)
        self.showings = ((0,) * machine.deeds,) * hands
        self.value = self.fold_row[first]
        self.standing = None if witness is None else start
        self.done = 0

    def whole(self):
        """Return what counters show that count what all hands do."""
        return merged(self.counters, self.showings)

    def told(self):
        """Return the state that counters and value tell."""
        lot = lot_with(self._lots, moved_by(self.machine.tables, self.first, self.whole()))
        return lot[self.value]

    def left(self, *, most):
        """Return the states that counters and standing leave open, without the value."""
        if self.witness is None:
            return open_lot(self.machine, self.first, self.counters, self.whole(), most=most)
        return states_left(self.machine, self.first, self.counters, self.witness, self.whole(), self.standing,
                           self.start, most=most)

    def do(self, hand, deed):
        """Do a deed by a hand; return the hand's showing behind it."""
        self._need_hand(hand)
        need_deed(self.machine, deed)
        later = self.machine.tables[deed][self.told()]
        showing = shown_on(self.counters, self.showings[hand], deed)
        self._show(hand, showing)
        self.value = self.fold_row[later]
        if self.witness is not None:
            self.standing = self.witness.tables[deed][self.standing]
        self.done += 1
        return showing

    def hand_over(self, one, other):
        """Let one hand's counters be counted on by another hand's; return the other's showing."""
        self._need_hand(one)
        self._need_hand(other)
        if one == other:
            raise Refused(other)
        showing = merged(self.counters, (self.showings[one], self.showings[other]))
        self._show(other, showing)
        self._show(one, (0,) * self.machine.deeds)
        return showing

    def _need_hand(self, value):
        if not is_below(value, len(self.showings)):
            raise Refused(value)

    def _show(self, hand, showing):
        self.showings = self.showings[:hand] + (showing,) + self.showings[hand + 1:]
