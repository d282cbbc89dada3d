"""Machines done together: whether the standings of witnesses tell a machine's state beside the counters."""

from onewitness.basics import STATES_MOST
from onewitness.errors import TooGreat
from onewitness.settling import deed_pairs, least_parting


class Together:
    """A machine and witnesses done together: the points (the state, then the standings) that come.

    Parts are the tables of each one, the machine's first, by deed. The points are numbered in the order in
    which they come; the tables are those of a machine of their numbers. TooGreat if more than most come.
    """

    def __init__(self, parts, start, most):
        self.points = [start]
        steps = [[] for table in parts[0]]
        number = {start: 0}
        at = 0
        while at < len(self.points):
            for deed, row in enumerate(steps):
                point = tuple([part[deed][place] for part, place in zip(parts, self.points[at])])
                if point not in number:
                    if len(self.points) >= most:
                        raise TooGreat(most)
                    number[point] = len(self.points)
                    self.points.append(point)
                row.append(number[point])
            at += 1
        self.tables = tuple([tuple(row) for row in steps])

    def exchange(self):
        """Tell whether no deed leads two unlike points to one."""
        return all([len(set(table)) == len(table) for table in self.tables])

    def tells(self, counters):
        """Tell, of what exchanges together, whether standings and showing tell the state."""
        places = list(range(len(self.points)))
        lots = least_parting(self.tables, places, deed_pairs(len(self.tables)), counters.rounds)
        # Points are unlike, so two of the same standings have unlike states.
        return all([len({self.standings(at) for at in lot}) == len(lot) for lot in lots])

    def standings(self, at):
        """Return the standings of the point of this number."""
        return self.points[at][1:]

    def beaten(self, walk):
        """Return two rows of one showing to the same standings and unlike states, the first of a walk, or None."""
        seen = {}
        at = 0
        point = walk.point(at)
        while point is not None:
            place, showing = point
            left = (self.standings(place), showing)
            if left in seen:
                return walk.row_to(seen[left]), walk.row_to(point)
            seen[left] = point
            at += 1
            point = walk.point(at)
        return None


def with_witness(machine, first, witness, start):
    """Return a machine and one witness done together."""
    return Together((machine.tables, witness.tables), (first, start), STATES_MOST * STATES_MOST)
