"""What the modules share: the limits of machines and rows, how values are checked, and walks along rows."""

from onewitness.errors import BadRow, TooGreat

DEEDS_MOST = 4
STATES_MOST = 8
ROW_MOST = 400
# So many pairs of a showing and a state, or a standing, are looked at where no caller says how many.
PAIRS_MOST = 4000


def is_number(value):
    """Tell whether any value is an integer from 0 on."""
    # Python counts True and False among the integers, the document does not.
    return isinstance(value, int) and not isinstance(value, bool) and value >= 0


def is_below(value, limit):
    """Tell whether any value is a number below the limit."""
    return is_number(value) and value < limit


def is_sequence(value, least, most):
    """Tell whether any value is a sequence of so many items."""
    return isinstance(value, (list, tuple)) and least <= len(value) <= most


def are_integers(value, many):
    """Tell whether any value is a sequence of so many integers, below 0, too."""
    if not is_sequence(value, many, many):
        return False
    return all([isinstance(item, int) and not isinstance(item, bool) for item in value])


def are_ascending(value, least, limit):
    """Tell whether any value is an ascending sequence of so many numbers or more, all below the limit."""
    if not is_sequence(value, least, limit) or first_not_below(value, limit) is not None:
        return False
    return all([one < other for one, other in zip(value, value[1:])])


def first_not_below(values, limit):
    """Return the index of the first item that is no number below the limit, or None."""
    for at, value in enumerate(values):
        if not is_below(value, limit):
            return at
    return None


def row_of(value, deeds):
    """Return a row of so many kinds of deeds as a tuple; BadRow for any other value."""
    if not is_sequence(value, 0, ROW_MOST):
        raise BadRow(-1)
    at = first_not_below(value, deeds)
    if at is not None:
        raise BadRow(at)
    return tuple(value)


def are_deeds(value, deeds):
    """Tell whether any value is a sequence of so many kinds of deeds, however long."""
    return isinstance(value, (list, tuple)) and first_not_below(value, deeds) is None


def ended(tables, place, row):
    """Return the place to which a row leads this one."""
    for deed in row:
        place = tables[deed][place]
    return place


class Walk:
    """The points (place, showing) that rows come to, in the order of the shortest rows to them.

    The tables tell by deed, by place the next place. With bounds, no kind that is
    counted in full shows more than its bound.
    """

    def __init__(self, tables, start, counters, most, bounds=None):
        self.tables = tables
        self.counters = counters
        self.most = most
        self.bounds = bounds
        self.points = [(start, (0,) * len(tables))]
        self.before = {self.points[0]: None}
        self.gone_on = 0

    def point(self, at):
        """Return the point of this number, None if there are not so many; TooGreat if more than most come."""
        # Only when all that came before was asked for is anything searched further:
        # whoever stops at a point has not searched behind the rows as long as the one to it.
        while at >= len(self.points) and self.gone_on < len(self.points):
            self._go_on(self.points[self.gone_on])
            self.gone_on += 1
        return self.points[at] if at < len(self.points) else None

    def all_points(self):
        """Return all points; TooGreat if there are more than most."""
        at = 0
        while self.point(at) is not None:
            at += 1
        return self.points

    def row_to(self, point):
        """Return a shortest row that comes to a point."""
        row = []
        while self.before[point] is not None:
            point, deed = self.before[point]
            row.append(deed)
        return tuple(reversed(row))

    def _go_on(self, point):
        place, showing = point
        for deed, table in enumerate(self.tables):
            later = self._later(showing, deed)
            if later is not None and (table[place], later) not in self.before:
                self._come((table[place], later), point, deed)

    def _come(self, point, before, deed):
        if len(self.points) >= self.most:
            raise TooGreat(self.most)
        self.points.append(point)
        self.before[point] = (before, deed)

    def _later(self, showing, kind):
        """Return the showing one deed later, None if it is beyond the bounds."""
        turn, rest = self.counters.rounds[kind], self.counters.rests[kind]
        many = showing[kind] + 1
        if turn == 0 and self.bounds is not None and many > self.bounds[kind]:
            return None
        if turn > 0 and many == rest + turn:
            many = rest
        return showing[:kind] + (many,) + showing[kind + 1:]
