"""Settling: the least parting of states in which deeds told do not hang on their order, nor on full rounds."""

from math import lcm

from onewitness.machines import need_exchanges, reached


def circle(table, place):
    """Return the places from this one on to which a table leads that exchanges, until it comes back."""
    places = [place]
    while table[places[-1]] != place:
        places.append(table[places[-1]])
    return places


def moved(table, place, many):
    """Return where so many deeds of a table that exchanges lead; below 0 they are undone."""
    # Round the circle, and not deed by deed: the number may be of any size.
    places = circle(table, place)
    return places[many % len(places)]


def moved_by(tables, place, counts):
    """Return where so many deeds of each kind lead, done kind by kind."""
    for table, many in zip(tables, counts):
        place = moved(table, place, many)
    return place


def deed_pairs(deeds):
    """Return all pairs of unlike deeds."""
    return [(one, other) for one in range(deeds) for other in range(one + 1, deeds)]


def least_parting(tables, places, pairs, rounds):
    """Return the lots of the least parting that settles pairs of deeds and rounds.

    The tables exchange the places, which are ascending, and lead out of none of them.
    """
    above = {place: place for place in places}
    together = _first_together(tables, places, pairs, rounds)
    while together:
        one, other = together.pop()
        kept, dropped = _top(above, one), _top(above, other)
        if kept != dropped:
            above[dropped] = kept
            # Deeds lead lots to lots. For two that were in one lot before, this was seen to then.
            together.extend([(table[one], table[other]) for table in tables])
    lots = {}
    for place in places:
        lots.setdefault(_top(above, place), []).append(place)
    # Each was begun with its least place, and so they were begun in ascending order.
    return tuple([tuple(lot) for lot in lots.values()])


def _top(above, place):
    """Return the place above which none stands, and which stands for the whole lot of this one."""
    while above[place] != place:
        # The way up is shortened for whoever goes it next: lots may have thousands of places.
        above[place] = above[above[place]]
        place = above[place]
    return place


def _first_together(tables, places, pairs, rounds):
    """Return the pairs of places that must be in one lot, but for those to which deeds lead these."""
    together = []
    for one, other in pairs:
        first, second = tables[one], tables[other]
        together.extend([(second[first[place]], first[second[place]]) for place in places])
    # A round 0 asks nothing: done 0 times a deed leads each place to itself.
    for table, turn in zip(tables, rounds):
        together.extend(_all_moved(table, places, turn))
    return together


def _all_moved(table, places, many):
    """Return the pairs of each place and that to which so many deeds lead it."""
    later = {}
    for place in places:
        if place not in later:
            found = circle(table, place)
            for at, one in enumerate(found):
                later[one] = found[(at + many) % len(found)]
    return list(later.items())


def order_of(table, places):
    """Return the least number of deeds, from 1 on, that leads each place to itself."""
    order = 1
    for place in places:
        order = lcm(order, len(circle(table, place)))
    return order


def undoing(tables, places, row):
    """Return a row that leads each place back to that from which a row leads to it."""
    orders = [order_of(table, places) for table in tables]
    undone = []
    for deed in reversed(row):
        undone.extend([deed] * (orders[deed] - 1))
    return tuple(undone)


def settled(machine, first, pairs, rounds):
    """Return the lots of the least parting of the states that come that settles the pairs and rounds told."""
    need_exchanges(machine, first)
    return least_parting(machine.tables, reached(machine, first), pairs, rounds)
