"""Trials: a search for a witness that tells, among all machines of so many standings."""

from onewitness.basics import PAIRS_MOST, STATES_MOST
from onewitness.errors import TooGreat
from onewitness.leastones import named
from onewitness.machines import Machine
from onewitness.witnesses import beaten_rows


class Trials:
    """A search for a witness that tells, which keeps the pairs of rows that have beaten some.

    Each trial, of tables begun or whole, stands for other witnesses. TooGreat if more than most are made.
    """

    def __init__(self, machine, first, counters, most):
        self.machine = machine
        self.first = first
        self.counters = counters
        self.most = most
        self.trials = 0
        self.beating = []

    def telling(self, standings):
        """Return a witness of so many standings that tells, None if there is none that needs them all."""
        deeds = self.machine.deeds
        waiting = [()]
        while waiting:
            begun = waiting.pop()
            if self._is_beaten(begun):
                self._count()
            elif len(begun) < named(begun) * deeds:
                # New standings are numbered as they come.
                later = range(min(named(begun) + 1, standings))
                waiting.extend([begun + (standing,) for standing in later])
            elif named(begun) == standings:
                self._count()
                witness = Machine([begun[deed::deeds] for deed in range(deeds)])
                if self._tells(witness):
                    return witness
        return None

    def _count(self):
        self.trials += 1
        if self.trials > self.most:
            raise TooGreat(self.most)

    def _tells(self, witness):
        """Tell whether a witness tells; if not, keep the rows that beat it."""
        rows = beaten_rows(self.machine, self.first, self.counters, witness, most=PAIRS_MOST * STATES_MOST)
        if rows is not None:
            self.beating.append(rows)
        return rows is None

    def _is_beaten(self, begun):
        """Tell whether tables begun lead two of the rows kept to one standing."""
        for one, other in self.beating:
            standing = self._ended(begun, one)
            if standing is not None and standing == self._ended(begun, other):
                return True
        return False

    def _ended(self, begun, row):
        """Return the standing to which tables begun lead 0, None if that is not yet told."""
        standing = 0
        for deed in row:
            at = standing * self.machine.deeds + deed
            if at >= len(begun):
                return None
            standing = begun[at]
        return standing
