"""Groups of doings that are kept, the witnesses that they make, and splits."""

from onewitness.basics import STATES_MOST
from onewitness.doings import Doings, as_doing, keeper_doings
from onewitness.errors import Refused, TooGreat
from onewitness.machines import Machine, need_exchanging_witness


class Cosets:
    """The doings of all rows, in one coset if they differ by what a member of a group does ahead of the row.

    Cosets are numbered as they come, the first rows to them being taken in their order, by ascending deeds.
    """

    def __init__(self, doings, group):
        self.doings = doings
        self.firsts = [doings.nothing]
        self.number = {member: 0 for member in group}
        self.tables = [[] for turn in doings.rounds]
        at = 0
        while at < len(self.firsts):
            for deed, table in enumerate(self.tables):
                later = doings.deed_behind(self.firsts[at], deed)
                if later not in self.number:
                    for member in group:
                        self.number[doings.behind(member, later)] = len(self.firsts)
                    self.firsts.append(later)
                table.append(self.number[later])
            at += 1

    def are_one(self, one, other):
        """Tell whether two doings are in one coset."""
        return self.number[one] == self.number[other]

    def commute(self, one, other):
        """Tell whether two doings, done in either order, are in one coset."""
        return self.are_one(self.doings.behind(one, other), self.doings.behind(other, one))

    def makers(self, kind, keeping):
        """Return, from each coset of one deed of a kind, a doing that makes a split of this kind alone.

        That is: what members of the group do behind it is in its coset, too, and done as often as the kind's
        round it is a member.
        """
        if self.doings.rounds[kind] == 1:
            return [self.doings.nothing]
        counts = self.doings.deed_behind(self.doings.nothing, kind)[1]
        return [one for one in self.firsts if one[1] == counts and self._is_maker(one, kind, keeping)]

    def _is_maker(self, one, kind, keeping):
        if not all([self.are_one(self.doings.behind(one, keeper), one) for keeper in keeping]):
            return False
        last = powers(self.doings, one, self.doings.rounds[kind])[-1]
        return self.are_one(self.doings.behind(last, one), self.doings.nothing)


def powers(doings, one, many):
    """Return what a doing does, done 0 times, once, and so on: so many doings, one at least."""
    done = [doings.nothing]
    while len(done) < many:
        done.append(doings.behind(done[-1], one))
    return done


def _members(value, known):
    """Return the doings that any value is a sequence of, unlike ones, as the keys of a dict; None for any other."""
    if not isinstance(value, (list, tuple)):
        return None
    members = {}
    for item in value:
        one = as_doing(item, known)
        if one is None or one in members:
            return None
        members[one] = True
    return members


def _made_by(doings, makers, members):
    """Return what the makers do behind one another, None if some of it is not among the members."""
    made = {doings.nothing: True}
    waiting = [doings.nothing]
    while waiting:
        one = waiting.pop()
        for maker in makers:
            later = doings.behind(one, maker)
            if later not in members:
                return None
            if later not in made:
                made[later] = True
                waiting.append(later)
    return made


def _is_group(doings, members):
    """Tell whether what members do behind one another is always one of them, and there is one."""
    if doings.nothing not in members:
        return False
    makers, made = [], {doings.nothing: True}
    # Each maker at least doubles what is made, so there are few of them, where there may be many pairs of members.
    for one in members:
        if one not in made:
            makers.append(one)
            made = _made_by(doings, makers, members)
            if made is None:
                return False
    return True


def _kept_group(doings, value, known):
    """Return the doings of any value that is a kept group, None for any other."""
    members = _members(value, known)
    if members is None or not _is_group(doings, members):
        return None
    if [one for one in members if doings.is_still(one) and not doings.keeps(one)]:
        return None
    return members


def is_kept_group(machine, first, counters, value, *, most):
    """Tell whether any value is a kept group of doings."""
    doings = Doings(machine, first, counters)
    return _kept_group(doings, value, doings.found(most)) is not None


def kept_doings(machine, first, counters, witness, start=0, *, most):
    """Return the doings of all rows that lead the witness from the start to itself, ascending."""
    doings = Doings(machine, first, counters)
    need_exchanging_witness(machine.deeds, witness, start)
    known = {(doings.nothing, start): True}
    waiting = [(doings.nothing, start)]
    while waiting:
        one, standing = waiting.pop()
        for deed, table in enumerate(witness.tables):
            later = (doings.deed_behind(one, deed), table[standing])
            if later not in known:
                if len(known) >= most:
                    raise TooGreat(most)
                known[later] = True
                waiting.append(later)
    return tuple(sorted([one for one, standing in known if standing == start]))


def coset_witness(machine, first, counters, kept, *, most):
    """Return the witness that a kept group makes."""
    doings = Doings(machine, first, counters)
    known = doings.found(most)
    members = _kept_group(doings, kept, known)
    if members is None:
        raise Refused(kept)
    if len(known) > STATES_MOST * len(members):
        raise TooGreat(STATES_MOST)
    return Machine(Cosets(doings, members).tables)


def split_paper(machine, first, counters, *, most):
    """Return some split, ascending, None if there is none."""
    doings = Doings(machine, first, counters)
    keeping = keeper_doings(doings, doings.found(most))
    cosets = Cosets(doings, keeping)
    # Up to keepers a split has one doing for each counts. So it is made by a doing for each kind that, up to keepers,
    # goes round with its counter, and these do not hang on their order; and whichever do not, they make a split.
    rows = [()]
    for kind in range(machine.deeds):
        makers = cosets.makers(kind, keeping)
        rows = [row + (one,) for row in rows for one in makers if all([cosets.commute(one, other) for other in row])]
    if not rows:
        return None
    members = keeping
    for one, turn in zip(rows[0], doings.rounds):
        done = powers(doings, one, turn)
        members = [doings.behind(member, later) for member in members for later in done]
    return tuple(sorted(members))


def split_holds(machine, first, counters, value, *, most):
    """Tell whether any value is a split."""
    doings = Doings(machine, first, counters)
    known = doings.found(most)
    members = _members(value, known)
    if members is None or not _is_group(doings, members):
        return False
    still = [one for one in members if doings.is_still(one)]
    if sorted(still) != sorted(keeper_doings(doings, known)):
        return False
    return len({one[1] for one in members}) == len({one[1] for one in known})
