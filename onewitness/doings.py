"""Doings: what rows do, to the states that come and to counters by rounds."""

from onewitness.basics import is_number, is_sequence
from onewitness.counters import Counters
from onewitness.errors import Refused, TooGreat
from onewitness.machines import check_row, need_exchanges, need_state, reached


class Doings:
    """The doings (images, counts) of a machine's rows: by state that comes, and by kind."""

    def __init__(self, machine, first, counters):
        need_state(machine, first)
        # Only beside counters that go round at once doings have an end, and each one is undone by another one.
        if len(counters.rounds) != machine.deeds or 0 in counters.rounds or sum(counters.rests) > 0:
            raise Refused(counters)
        need_exchanges(machine, first)
        come = reached(machine, first)
        self.tables = machine.tables
        self.first = first
        self.rounds = counters.rounds
        self.places = {state: place for place, state in enumerate(come)}
        self.nothing = (come, (0,) * machine.deeds)

    def deed_behind(self, one, deed):
        """Return the doing of a row that does this one, and then a deed."""
        images, counts = one
        table = self.tables[deed]
        many = (counts[deed] + 1) % self.rounds[deed]
        return tuple([table[state] for state in images]), counts[:deed] + (many,) + counts[deed + 1:]

    def behind(self, one, other):
        """Return the doing of a row that does one, and then another one."""
        images = tuple([other[0][self.places[state]] for state in one[0]])
        counts = [(few + more) % turn for few, more, turn in zip(one[1], other[1], self.rounds)]
        return images, tuple(counts)

    def is_still(self, one):
        """Tell whether all counts of a doing are 0."""
        return one[1] == self.nothing[1]

    def keeps(self, one):
        """Tell whether a doing leads the first state to itself."""
        return one[0][self.places[self.first]] == self.first

    def found(self, most):
        """Return the doings of all rows, as the keys of a dict; TooGreat if there are more than most."""
        known = {self.nothing: True}
        waiting = [self.nothing]
        while waiting:
            one = waiting.pop()
            for deed in range(len(self.tables)):
                later = self.deed_behind(one, deed)
                if later not in known:
                    if len(known) >= most:
                        raise TooGreat(most)
                    known[later] = True
                    waiting.append(later)
        return known


def as_doing(value, known):
    """Return any value that is one of the doings known, as tuples; None for any other one."""
    if not is_sequence(value, 2, 2):
        return None
    for part in value:
        if not isinstance(part, (list, tuple)) or not all([is_number(item) for item in part]):
            return None
    one = (tuple(value[0]), tuple(value[1]))
    return one if one in known else None


def doing_of(machine, first, counters, row):
    """Return what a row does."""
    doings = Doings(machine, first, counters)
    one = doings.nothing
    for deed in check_row(machine, row):
        one = doings.deed_behind(one, deed)
    return one


def all_doings(machine, first, counters, *, most):
    """Return the doings of all rows, ascending."""
    return tuple(sorted(Doings(machine, first, counters).found(most)))


def doing_behind(machine, first, counters, one, other, *, most):
    """Return the doing of a row that does one, and then another one."""
    doings = Doings(machine, first, counters)
    known = doings.found(most)
    before, later = as_doing(one, known), as_doing(other, known)
    if before is None:
        raise Refused(one)
    if later is None:
        raise Refused(other)
    return doings.behind(before, later)


def still_doings(machine, first, counters, *, most):
    """Return the images of all still doings, ascending."""
    doings = Doings(machine, first, counters)
    return tuple(sorted([one[0] for one in doings.found(most) if doings.is_still(one)]))


def keeper_doings(doings, known):
    """Return the still doings among these that lead the first state to itself."""
    return [one for one in known if doings.is_still(one) and doings.keeps(one)]


def keepers(machine, first, counters, *, most):
    """Return the images of the still doings that lead the first state to itself, ascending."""
    doings = Doings(machine, first, counters)
    return tuple(sorted([one[0] for one in keeper_doings(doings, doings.found(most))]))


def is_free(machine, first):
    """Tell whether rows that lead some state that comes to itself always lead all of them to themselves."""
    doings = Doings(machine, first, Counters((1,) * machine.deeds))
    # Counters that do not count leave the images alone. There are at least as many as states that come, since some
    # row leads the first one to each; of more, two lead it alike: one behind the other undone, and it alone is kept.
    try:
        doings.found(len(doings.places))
    except TooGreat:
        return False
    return True
