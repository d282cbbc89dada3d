"""Settling: the least parting of states in which deeds told do not hang on their order, nor on full rounds."""

from onewitness.machines import need_exchanges, reached


def circle(table, place):
    """Return the places from this one on to which a table leads that exchanges, until it comes back."""
    places = [place]
    while table[places[-1]] != place:
        places.append(table[places[-1]])
    return places


def moved(table, place, many):
    """Return where so many deeds of a table that exchanges lead; below 0 they are undone."""
    # Round the circle, and not deed by deed: the number may be of any size.
    places = circle(table, place)
    return places[many % len(places)]


def moved_by(tables, place, counts):
    """Return where so many deeds of each kind lead, done kind by kind."""
    for table, many in zip(tables, counts):
        place = moved(table, place, many)
    return place


def deed_pairs(deeds):
    """Return all pairs of unlike deeds."""
    return [(one, other) for one in range(deeds) for other in range(one + 1, deeds)]


def least_parting(tables, places, pairs, rounds):
    """Return the lots of the least parting that settles pairs of deeds and rounds.

    The tables exchange the places, which are ascending, and lead out of none of them.
    """
    name = {place: place for place in places}
    together = _first_together(tables, places, pairs, rounds)
    while together:
        one, other = together.pop()
        kept, dropped = name[one], name[other]
        if kept != dropped:
            for place in places:
                if name[place] == dropped:
                    name[place] = kept
            # Deeds lead lots to lots. For two that were in one lot before, this was seen to then.
            together.extend([(table[one], table[other]) for table in tables])
    lots = {}
    for place in places:
        lots.setdefault(name[place], []).append(place)
    # Each was begun with its least place, and so they were begun in ascending order.
    return tuple([tuple(lot) for lot in lots.values()])


def _first_together(tables, places, pairs, rounds):
    """Return the pairs of places that must be in one lot, but for those to which deeds lead these."""
    together = []
    for place in places:
        for one, other in pairs:
            together.append((tables[other][tables[one][place]], tables[one][tables[other][place]]))
        # A round 0 asks nothing: done 0 times a deed leads each place to itself.
        for table, turn in zip(tables, rounds):
            together.append((place, moved(table, place, turn)))
    return together


def settled(machine, first, pairs, rounds):
    """Return the lots of the least parting of the states that come that settles the pairs and rounds told."""
    need_exchanges(machine, first)
    return least_parting(machine.tables, reached(machine, first), pairs, rounds)
