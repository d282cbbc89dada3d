"""Alike rows: such as counters and logs do not tell apart."""

from onewitness.basics import ended


class Alike:
    """The pairs of places to which two alike rows lead from one start, and such rows.

    Two rows are alike if one becomes the other by swaps, of told pairs of deeds that stand side by side in it, and
    by putting in or taking out, at one place, a deed as often as its round (0 for none). Deeds exchange the places
    that come. So each pair to which alike rows lead is come to by going on with both rows at once: by one deed, by
    a swap, or by a round in the other row alone; what leads the other way round is a repetition of these.
    """

    def __init__(self, tables, start, swaps, rounds):
        steps = [((deed,), (deed,)) for deed in range(len(tables))]
        steps.extend([((one, other), (other, one)) for one, other in swaps])
        steps.extend([((), (deed,) * turn) for deed, turn in enumerate(rounds) if turn > 0])
        places = list(range(len(tables[0])))
        self.steps = []
        for part, like in steps:
            led, led_alike = [[ended(tables, place, row) for place in places] for row in (part, like)]
            self.steps.append((part, like, led, led_alike))
        self.pairs = [(start, start)]
        self.before = {self.pairs[0]: None}
        self.gone_on = 0

    def pair(self, at):
        """Return the pair of this number, None if there are not so many."""
        # Rows are gone on with only as far as somebody asks: there may be very many pairs.
        while at >= len(self.pairs) and self.gone_on < len(self.pairs):
            self._go_on(self.pairs[self.gone_on])
            self.gone_on += 1
        return self.pairs[at] if at < len(self.pairs) else None

    def rows_to(self, pair):
        """Return two alike rows to a pair that was found."""
        steps = []
        while self.before[pair] is not None:
            pair, step = self.before[pair]
            steps.append(step)
        one, other = [], []
        for step in reversed(steps):
            one.extend(step[0])
            other.extend(step[1])
        return tuple(one), tuple(other)

    def _go_on(self, pair):
        for step in self.steps:
            later = (step[2][pair[0]], step[3][pair[1]])
            if later not in self.before:
                self.before[later] = (pair, step)
                self.pairs.append(later)
