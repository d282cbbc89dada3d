"""Boards: the lots that counters tell, how deeds lead them, and joint counters that tell them too."""

from math import gcd

from onewitness.basics import are_integers, is_below, is_number, is_sequence
from onewitness.counters import Counters, need_fit
from onewitness.errors import Refused
from onewitness.lots import lot_with, lots_of
from onewitness.machines import need_state
from onewitness.settling import circle, moved, moved_by


def _board_told(machine, first, counters):
    """Return the lots that the counters tell, and by deed, by lot the number of the lot to which it leads."""
    lots = lots_of(machine, first, counters)
    number = {state: at for at, lot in enumerate(lots) for state in lot}
    moves = [tuple([number[table[lot[0]]] for lot in lots]) for table in machine.tables]
    return lots, tuple(moves)


def board_of(machine, first):
    """Return the board: the lots that counters in full tell, and by deed, by lot the next lot."""
    return _board_told(machine, first, Counters((0,) * machine.deeds))


def orders_of(machine, first):
    """Return by deed after how many times it first leads a lot of the board back to itself."""
    moves = board_of(machine, first)[1]
    return tuple([len(circle(table, 0)) for table in moves])


def needless_kinds(machine, first):
    """Return the deeds that lead each lot of the board to itself."""
    return tuple([deed for deed, order in enumerate(orders_of(machine, first)) if order == 1])


def plain_rounds(machine, first, counters):
    """Return by kind the greatest number that divides its round and its deed's order."""
    need_state(machine, first)
    need_fit(machine, counters)
    # All numbers divide 0, the round of a kind that is counted in full: so its order is left.
    return tuple([gcd(turn, order) for turn, order in zip(counters.rounds, orders_of(machine, first))])


def tell_alike(machine, first, counters, others):
    """Tell whether two counters tell the same lots."""
    need_state(machine, first)
    need_fit(machine, counters)
    need_fit(machine, others)
    return lots_of(machine, first, counters) == lots_of(machine, first, others)


def lot_after(machine, first, counters, counts):
    """Return the lot to which so many deeds of each kind lead the first state."""
    lots = lots_of(machine, first, counters)
    if not are_integers(counts, machine.deeds):
        raise Refused(counts)
    return lot_with(lots, moved_by(machine.tables, first, counts))


def _basis_and_box(machine, first, counters):
    """Return the rows of the basis, and by lot the only counts below its diagonal that lead the first lot there."""
    lots, moves = _board_told(machine, first, counters)
    home = lots.index(lot_with(lots, first))
    rows, box = [], {home: (0,) * machine.deeds}
    for kind, table in enumerate(moves):
        many = 1
        while moved(table, home, many) not in box:
            many += 1
        tried = [_with_kind(counts, kind, many) for counts in box.values()]
        rows.append([counts for counts in tried if moved_by(moves, home, counts) == home][0])
        wider = {}
        for at in range(many):
            for lot, counts in box.items():
                wider[moved(table, lot, at)] = _with_kind(counts, kind, at)
        box = wider
    return tuple(rows), box


def _with_kind(counts, kind, many):
    """Return the counts with so many of one kind."""
    return counts[:kind] + (many,) + counts[kind + 1:]


def board_basis(machine, first, counters):
    """Return by kind a row of counts; their sums of whole multiples are what leads the first lot to itself."""
    return _basis_and_box(machine, first, counters)[0]


def joint_counters(machine, first, counters):
    """Return joint counters, as few as can be, that tell the lots."""
    table = _diagonal(board_basis(machine, first, counters))
    kinds = machine.deeds
    joint = []
    for at in range(kinds):
        turn = abs(table[at][at])
        if turn > 1:
            joint.append((tuple([row[at] % turn for row in table[kinds:]]), turn))
    return tuple(joint)


def _diagonal(rows):
    """Return the rows made diagonal by steps between rows and between columns, each number dividing the next.

    Below them stand as many rows more, in which the steps between columns alone were done to the diagonal of ones:
    a column of these weighs the counts of each row above as nothing, modulo the diagonal's number in that column.
    """
    kinds = len(rows)
    table = [list(row) for row in rows]
    for kind in range(kinds):
        table.append([1 if kind == at else 0 for at in range(kinds)])
    for at in range(kinds):
        _clear_cross(table, at)
        rest = _undivided(table, at)
        while rest is not None:
            # With that row's numbers beside it, the next clearing leaves a lesser number on the diagonal.
            table[at] = [one + other for one, other in zip(table[at], table[rest])]
            _clear_cross(table, at)
            rest = _undivided(table, at)
    return table


def _clear_cross(table, at):
    """Make all numbers behind this place of the diagonal 0 in its row and its column."""
    later = range(at + 1, len(table[0]))
    _put_least(table, at)
    while [place for place in later if table[place][at] != 0 or table[at][place] != 0]:
        _take_off(table, at)
        _put_least(table, at)


def _put_least(table, at):
    """Put the least number but 0, apart from signs, from this place of the diagonal on there."""
    places = range(at, len(table[0]))
    sizes = [(abs(table[down][along]), down, along) for down in places for along in places]
    size, row, column = min([one for one in sizes if one[0] > 0])
    table[at], table[row] = table[row], table[at]
    for line in table:
        line[at], line[column] = line[column], line[at]


def _take_off(table, at):
    """Take this place's row and column off the later ones as often as it goes."""
    later = range(at + 1, len(table[0]))
    for row in later:
        many = table[row][at] // table[at][at]
        table[row] = [one - many * other for one, other in zip(table[row], table[at])]
    for column in later:
        many = table[at][column] // table[at][at]
        for line in table:
            line[column] = line[column] - many * line[at]


def _undivided(table, at):
    """Return the first later row with a number that the one on this place of the diagonal does not divide, or None."""
    for row in range(at + 1, len(table[0])):
        if [number for number in table[row] if number % table[at][at] != 0]:
            return row
    return None


def _is_joint_counter(value, kinds):
    """Tell whether any value is a pair of a weight by kind and a round, with weights below it."""
    if not is_sequence(value, 2, 2) or not is_number(value[1]) or not is_sequence(value[0], kinds, kinds):
        return False
    return all([is_below(weight, value[1]) for weight in value[0]])


def _joint_shows(joint, counts):
    """Return what a joint counter shows of counts."""
    weights, turn = joint
    return sum([weight * many for weight, many in zip(weights, counts)]) % turn


def joint_holds(machine, first, counters, value):
    """Tell whether any value is joint counters that tell the lots."""
    rows, box = _basis_and_box(machine, first, counters)
    if not isinstance(value, (list, tuple)):
        return False
    if not all([_is_joint_counter(joint, machine.deeds) for joint in value]):
        return False
    # What they show of sums is the sum of what they show: so it is enough that of the basis they show nothing,
    # and of counts that lead to another lot something.
    if [row for row in rows for joint in value if _joint_shows(joint, row) != 0]:
        return False
    away = [counts for counts in box.values() if counts != (0,) * machine.deeds]
    return all([any([_joint_shows(joint, counts) != 0 for joint in value]) for counts in away])
