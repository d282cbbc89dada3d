"""Points [29], [30] and [31]: groups of doings, the witnesses that they make, and splits."""

import random
import unittest
from itertools import permutations, product
from math import gcd, prod

from onewitness.boards import plain_rounds
from onewitness.counters import Counters
from onewitness.doings import all_doings, is_free, keepers
from onewitness.errors import Forgets, NoState, Refused, TooGreat
from onewitness.leastones import fewest_standings
from onewitness.lots import fold_size
from onewitness.machines import Machine, forgotten, reached
from onewitness.splits import coset_witness, is_kept_group, kept_doings, split_holds, split_paper
from onewitness.witnesses import is_telling
from tests.helper import (
    CUBE, EIGHT, FORGETS, HOURS, PAIRS, PARTLY, SQUARE, SWAPS, TURN, TWISTED, WHEEL, Promises, any_values, bent,
    ends, exact, loose_tables, turned,
)
from tests.test_doings import HALVES, NOTHING, THREE, doings_by_rows, told

SPLIT = (((0, 1, 2), (0, 0)), ((2, 1, 0), (0, 1)))
TWO = Counters([2])


def behind(machine, first, counters, one, other):
    """What is done by one doing, and then another one."""
    come = reached(machine, first)
    images = tuple(other[0][come.index(state)] for state in one[0])
    return images, tuple((few + more) % turn for few, more, turn in zip(one[1], other[1], counters.rounds))


def made_by(machine, first, counters, makers):
    """All that some doings do behind one another."""
    made, fresh = set(makers), set(makers)
    while fresh:
        fresh = {behind(machine, first, counters, one, maker) for one in fresh for maker in makers} - made
        made |= fresh
    return frozenset(made)


KNOWN_GROUPS = {}


def groups_of(machine, first, counters):
    """All groups of doings: those that single ones make, and what such make together."""
    told_by = (machine.tables, first, counters.rounds)
    if told_by not in KNOWN_GROUPS:
        doings = all_doings(machine, first, counters, most=500)
        # By group some doings that make it.
        groups = {made_by(machine, first, counters, [one]): [one] for one in doings}
        fresh = list(groups)
        while fresh:
            later = []
            for group in fresh:
                for one in doings:
                    wider = groups[group] + [one]
                    made = group if one in group else made_by(machine, first, counters, wider)
                    if made not in groups:
                        groups[made] = wider
                        later.append(made)
            fresh = later
        KNOWN_GROUPS[told_by] = sorted(groups, key=sorted)
    return KNOWN_GROUPS[told_by]


def is_group_of(machine, first, counters, value):
    return all(behind(machine, first, counters, one, other) in value for one in value for other in value)


def is_kept(machine, first, group):
    place = reached(machine, first).index(first)
    return all(images[place] == first for images, counts in group if not any(counts))


def is_split(machine, first, counters, group):
    """Whether a group of doings is a split, word by word."""
    still = sorted(images for images, counts in group if not any(counts))
    counts_told = {counts for images, counts in group}
    return still == list(keepers(machine, first, counters, most=500)) and len(counts_told) == prod(counters.rounds)


def with_groups():
    """Machines with so few doings that all groups of them can be found."""
    found = []
    for machine, first, counters in told():
        if len(all_doings(machine, first, counters, most=500)) <= 24:
            found.append((machine, first, counters))
    return found


class KeptGroupTest(Promises):

    def test_all_groups(self):
        for machine, first, counters in with_groups():
            for group in groups_of(machine, first, counters):
                wanted = is_kept(machine, first, group)
                for value in (tuple(sorted(group)), sorted(group, reverse=True),
                              [[list(part) for part in one] for one in sorted(group)]):
                    self.same(is_kept_group(machine, first, counters, value, most=500), wanted)

    def test_all_sequences_of_few_doings(self):
        for machine, first, counters in ((THREE, 0, HALVES), (WHEEL, 0, TWO), (WHEEL, 1, Counters([4])),
                                         (SQUARE, 0, HALVES)):
            groups = groups_of(machine, first, counters)
            doings = all_doings(machine, first, counters, most=500)
            for many in range(3):
                for some in product(doings, repeat=many):
                    wanted = len(set(some)) == many and frozenset(some) in groups and is_kept(machine, first, some)
                    self.same(is_kept_group(machine, first, counters, some, most=500), wanted)
            for some in permutations(doings[:5], 3):
                wanted = frozenset(some) in groups and is_kept(machine, first, some)
                self.same(is_kept_group(machine, first, counters, list(some), most=500), wanted)

    def test_less_or_more_than_a_group(self):
        for machine, first, counters in with_groups()[::3]:
            doings = all_doings(machine, first, counters, most=500)
            for group in groups_of(machine, first, counters):
                value = sorted(group)
                for at in range(len(value)):
                    less = value[:at] + value[at + 1:]
                    wanted = len(less) == 1 and less[0] == doings_nothing(machine, first) if less else False
                    self.same(is_kept_group(machine, first, counters, less, most=500), wanted)
                    self.same(is_kept_group(machine, first, counters, value + [value[at]], most=500), False)

    def test_told_ones(self):
        for value, wanted in (
            (SPLIT, True), (SPLIT[::-1], True), ((NOTHING,), True), ([NOTHING, NOTHING], False), ((), False),
            ([], False),
            (SPLIT + (NOTHING,), False), (SPLIT[1:], False), (((NOTHING[0], [0, 0]), ([2, 1, 0], (0, 1))), True),
            ((NOTHING, ((1, 2, 0), (0, 0)), ((2, 0, 1), (0, 0))), False), ((NOTHING, ((0, 1, 2), (0, 1))), False),
            (None, False), (NOTHING, False), ("", False), ([None], False), ([NOTHING, None], False),
            ({NOTHING: 1}, False),
            ([((False, True, 2), (0, 0))], False), ([((0, 1, 2), (0, False))], False), ([((0, 1, 2), (0, 2))], False),
        ):
            self.same(is_kept_group(THREE, 0, HALVES, value, most=6), wanted, value)

    def test_bent_and_any_value(self):
        right = [exact(SPLIT), exact(SPLIT[:1]), exact((NOTHING,))]
        for value in bent(SPLIT):
            self.same(is_kept_group(THREE, 0, HALVES, value, most=6), exact(value) in right, value)
        for value in any_values():
            self.same(is_kept_group(THREE, 0, HALVES, value, most=6), False)

    def test_great_groups(self):
        six = Machine([(1, 2, 3, 4, 5, 0), (1, 0, 2, 3, 4, 5)])
        counters = Counters([2, 1])
        doings = all_doings(six, 0, counters, most=10000)
        self.same(is_kept_group(six, 0, counters, doings, most=10000), False)
        witness = Machine([(1, 2, 3, 4, 5, 0), (1, 0, 2, 3, 4, 5)])
        group = kept_doings(six, 0, counters, witness, most=10000)
        self.assertEqual(len(group), 240)
        shuffled = list(group)
        random.Random(1).shuffle(shuffled)
        self.same(is_kept_group(six, 0, counters, shuffled, most=10000), True)
        self.same(is_kept_group(six, 0, counters, shuffled[1:], most=10000), False)

    def test_search(self):
        self.is_search(6, is_kept_group, THREE, 0, HALVES, SPLIT)
        self.refuses(TooGreat, {"most": 5}, is_kept_group, THREE, 0, HALVES, SPLIT, most=5)


def doings_nothing(machine, first):
    return reached(machine, first), (0,) * machine.deeds


def witnesses_for(machine):
    """Some witnesses, with starts, that exchange from there."""
    deeds = machine.deeds
    found = [(Machine([[0]] * deeds), 0), (turned(3, 2, deeds), 1), (turned(4, 3, deeds), 0), (turned(5, 4, deeds), 2)]
    if forgotten(machine, 0) is None:
        found += [(machine, state) for state in range(min(machine.states, 3)) if forgotten(machine, state) is None]
    return found


class KeptDoingsTest(Promises):

    def pairs_by_rows(self, machine, first, counters, witness, start):
        """The pairs of a doing and a standing to which rows lead."""
        nothing = doings_nothing(machine, first)
        one_deed = [(tuple(machine.tables[deed][state] for state in reached(machine, first)),
                     tuple(int(kind == deed) % turn for kind, turn in enumerate(counters.rounds)))
                    for deed in range(machine.deeds)]
        found, fresh = {(nothing, start)}, [(nothing, start)]
        while fresh:
            later = {(behind(machine, first, counters, one, one_deed[deed]), witness.tables[deed][standing])
                     for one, standing in fresh for deed in range(machine.deeds)}
            fresh = later - found
            found |= later
        return found

    def test_rows_that_lead_the_start_to_itself(self):
        for machine, first, counters in list(told())[::2]:
            for witness, start in witnesses_for(machine):
                pairs = self.pairs_by_rows(machine, first, counters, witness, start)
                wanted = tuple(sorted({one for one, standing in pairs if standing == start}))
                group = self.is_search(len(pairs), kept_doings, machine, first, counters, witness, start)
                self.same(group, wanted)
                self.assertEqual(made_by(machine, first, counters, wanted), frozenset(wanted))
                tells = is_telling(machine, first, counters, witness, start, most=1)
                kept = is_kept_group(machine, first, counters, group, most=9000)
                self.assertTrue(kept or not tells)
                if tells:
                    doings = len(all_doings(machine, first, counters, most=9000))
                    self.assertGreaterEqual(len(reached(witness, start)) * len(group), doings)

    def test_told_ones(self):
        self.same(kept_doings(WHEEL, 0, TWO, WHEEL, most=9), (((0, 1, 2, 3), (0,)),))
        self.same(kept_doings(WHEEL, 0, TWO, Machine([(1, 0)]), most=4), (((0, 1, 2, 3), (0,)), ((2, 3, 0, 1), (0,))))
        self.same(kept_doings(WHEEL, 0, TWO, Machine([(0, 2, 1)]), 1, most=4),
                  (((0, 1, 2, 3), (0,)), ((2, 3, 0, 1), (0,))))
        self.same(len(kept_doings(WHEEL, 0, TWO, Machine([(0, 2, 1)]), most=4)), 4)
        self.same(len(kept_doings(machine=WHEEL, first=0, counters=TWO, witness=Machine([(0, 2, 1)]), start=0,
                                  most=4)), 4)
        self.refuses(TooGreat, {"most": 11}, kept_doings, WHEEL, 0, TWO, Machine([(1, 2, 0)]), most=11)
        self.same(len(kept_doings(WHEEL, 0, TWO, Machine([(1, 2, 0)]), most=12)), 4)

    def test_errors_in_their_order(self):
        one_deed, forgets = WHEEL, Machine([(1, 1, 2), (0, 1, 2)])
        for value in any_values():
            if not (type(value) is int and 0 <= value < 3):
                self.keeps(NoState, "state", value, kept_doings, FORGETS, value, TWO, one_deed, None, most=1)
                self.keeps(NoState, "state", value, kept_doings, SWAPS, 0, HALVES, forgets, value, most=1)
        for counters in (TWO, Counters([0, 1]), Counters([2, 2], [1, 0])):
            self.keeps(Refused, "at", counters, kept_doings, FORGETS, 0, counters, one_deed, None, most=1)
        self.refuses(Forgets, {"deed": 0, "one": 0, "other": 1}, kept_doings, FORGETS, 0, HALVES, one_deed, None,
                     most=1)
        self.keeps(Refused, "at", one_deed, kept_doings, SWAPS, 0, HALVES, one_deed, None, most=1)
        self.keeps(Refused, "at", forgets, kept_doings, SWAPS, 0, HALVES, forgets, most=1)
        self.same(kept_doings(SWAPS, 0, HALVES, forgets, 2, most=50), all_doings(SWAPS, 0, HALVES, most=50))
        for seed in range(20):
            witness = loose_tables(seed, 3, 2)
            for start in range(3):
                if forgotten(witness, start) is None:
                    self.assertTrue(kept_doings(SWAPS, 0, HALVES, witness, start, most=500))
                else:
                    self.keeps(Refused, "at", witness, kept_doings, SWAPS, 0, HALVES, witness, start, most=500)


class CosetWitnessTest(Promises):

    def test_witnesses_of_all_kept_groups(self):
        for machine, first, counters in with_groups():
            rows = doings_by_rows(machine, first, counters)
            for group in groups_of(machine, first, counters):
                if not is_kept(machine, first, group):
                    continue
                kept = sorted(group)
                if len(rows) > 8 * len(group):
                    self.refuses(TooGreat, {"most": 8}, coset_witness, machine, first, counters, kept, most=500)
                    continue
                witness = coset_witness(machine, first, counters, kept, most=len(rows))
                self.assertIs(type(witness), Machine)
                self.assertEqual(witness.states * len(group), len(rows))
                self.same(is_telling(machine, first, counters, witness, most=1), True)
                for one, row in rows.items():
                    together = {behind(machine, first, counters, member, one) for member in group}
                    for other, other_row in rows.items():
                        same = ends(witness, 0, row) == ends(witness, 0, other_row)
                        self.assertEqual(same, other in together)
                self.same(coset_witness(machine, first, counters, kept[::-1], most=500).tables, witness.tables)
                self.check_numbers(witness)

    def check_numbers(self, witness):
        """Standings are numbered as they come, standing by standing, by ascending deeds."""
        order = [0]
        for standing in range(witness.states):
            for table in witness.tables:
                if table[order[standing]] not in order:
                    order.append(table[order[standing]])
        self.assertEqual(order, list(range(witness.states)))

    def test_told_ones(self):
        self.same(coset_witness(THREE, 0, HALVES, SPLIT, most=9).tables, ((1, 2, 0), (2, 1, 0)))
        self.same(coset_witness(THREE, 0, HALVES, [NOTHING], most=6).tables,
                  ((1, 3, 5, 0, 2, 4), (2, 4, 0, 5, 1, 3)))
        self.same(coset_witness(WHEEL, 0, TWO, [((0, 1, 2, 3), [0])], most=4).tables, ((1, 2, 3, 0),))

    def test_errors_each_just_where_it_is_told(self):
        nothing = [doings_nothing(EIGHT, 0)]
        for turn in (1, 2, 3, 4, 8, 12):
            counters = Counters([turn])
            doings = len(all_doings(EIGHT, 0, counters, most=500))
            self.keeps(Refused, "at", None, coset_witness, EIGHT, 0, counters, None, most=doings)
            if doings > 8:
                self.refuses(TooGreat, {"most": 8}, coset_witness, EIGHT, 0, counters, nothing, most=doings)
            else:
                self.same(coset_witness(EIGHT, 0, counters, nothing, most=doings).states, 8)
            self.refuses(TooGreat, {"most": 7}, coset_witness, EIGHT, 0, counters, nothing, most=7)
            self.refuses(TooGreat, {"most": 7}, coset_witness, EIGHT, 0, counters, None, most=7)
        for value in any_values():
            self.keeps(Refused, "at", value, coset_witness, THREE, 0, HALVES, value, most=6)
            self.refuses(TooGreat, {"most": 5}, coset_witness, THREE, 0, HALVES, value, most=5)
        for value in bent(SPLIT):
            if not is_kept_group(THREE, 0, HALVES, value, most=6):
                self.keeps(Refused, "at", value, coset_witness, THREE, 0, HALVES, value, most=6)
        rotations = [NOTHING, ((1, 2, 0), (0, 0)), ((2, 0, 1), (0, 0))]
        self.keeps(Refused, "at", rotations, coset_witness, THREE, 0, HALVES, rotations, most=6)

    def test_the_fewest_standings_are_those_of_the_greatest_kept_group(self):
        for machine, first, counters in with_groups():
            if len(reached(machine, first)) > (6 if machine.deeds < 3 else 4):
                continue
            doings = len(all_doings(machine, first, counters, most=500))
            greatest = max(len(group) for group in groups_of(machine, first, counters)
                           if is_kept(machine, first, group))
            self.assertEqual(fewest_standings(machine, first, counters, most=50000) * greatest, doings)


class SplitTest(Promises):

    def test_against_all_groups(self):
        there, none = 0, 0
        for machine, first, counters in with_groups():
            splits = [group for group in groups_of(machine, first, counters)
                      if is_split(machine, first, counters, group)]
            doings = len(all_doings(machine, first, counters, most=500))
            paper = self.is_search(doings, split_paper, machine, first, counters)
            if splits:
                there += 1
                self.assertIs(type(paper), tuple)
                self.assertIn(frozenset(paper), splits)
                self.assertEqual(list(paper), sorted(set(paper)))
                self.assertEqual(exact(paper), exact(tuple(sorted(frozenset(paper)))))
            else:
                none += 1
                self.same(paper, None)
            for group in groups_of(machine, first, counters):
                for value in (sorted(group), tuple(sorted(group, reverse=True)),
                              [[list(p) for p in one] for one in group]):
                    self.same(split_holds(machine, first, counters, value, most=500), group in splits)
        self.assertGreater(min(there, none), 5)

    def test_keepers_and_a_doing_for_each_counts_that_are_no_group(self):
        unlike = set()
        for seed, (machine, first, counters) in enumerate(with_groups()):
            doings = all_doings(machine, first, counters, most=500)
            place = reached(machine, first).index(first)
            keeping = [one for one in doings if not any(one[1]) and one[0][place] == first]
            many = len(keeping) if seed % 2 else 1
            value, source = list(keeping), random.Random(seed)
            for counts in product(*[range(turn) for turn in counters.rounds]):
                if any(counts):
                    value += source.sample([one for one in doings if one[1] == counts], many)
            wanted = is_group_of(machine, first, counters, value) and is_split(machine, first, counters, value)
            unlike.add(wanted)
            self.same(split_holds(machine, first, counters, value, most=500), wanted)
            self.same(is_kept_group(machine, first, counters, value, most=500),
                      is_group_of(machine, first, counters, value))
        self.assertEqual(unlike, {True, False})

    def test_the_fewest_standings_are_as_few_as_the_fold(self):
        for machine, first, counters in told():
            if len(reached(machine, first)) <= (6 if machine.deeds < 3 else 4):
                few = fewest_standings(machine, first, counters, most=50000) == fold_size(machine, first, counters)
                paper = split_paper(machine, first, counters, most=9000)
                self.assertEqual(paper is not None, few, (machine.tables, counters.rounds))
                if few:
                    self.same(split_holds(machine, first, counters, paper, most=9000), True)
                    self.same(is_kept_group(machine, first, counters, paper, most=9000), True)
                    self.assertEqual(coset_witness(machine, first, counters, paper, most=9000).states,
                                     fold_size(machine, first, counters))

    def test_free_machines_without_a_common_divisor(self):
        found = 0
        for machine, first, counters in told():
            fold, cost = fold_size(machine, first, counters), prod(plain_rounds(machine, first, counters))
            if is_free(machine, first) and gcd(fold, cost) == 1:
                found += 1
                self.assertIsNotNone(split_paper(machine, first, counters, most=9000))
        self.assertGreater(found, 10)

    def test_neither_is_enough_alone(self):
        self.same([is_free(TWISTED, 0), fold_size(TWISTED, 0, Counters((2, 2)))], [True, 2])
        self.same(split_paper(TWISTED, 0, Counters((2, 2)), most=8), None)
        self.same([is_free(PAIRS, 0), fold_size(PAIRS, 0, Counters((3, 1)))], [False, 2])
        self.same(gcd(2, prod(plain_rounds(PAIRS, 0, Counters((3, 1))))), 1)
        self.same(split_paper(PAIRS, 0, Counters((3, 1)), most=12), None)

    def test_folds_to_8(self):
        backwards = Machine([(1, 2, 3, 4, 5, 6, 7, 0), (0, 7, 6, 5, 4, 3, 2, 1)])
        for machine, counters in (
            (EIGHT, Counters([1])), (EIGHT, Counters([3])), (backwards, Counters([1, 2])),
            (backwards, Counters([1, 1])),
            (backwards, Counters([3, 2])), (HOURS, Counters([1, 1])), (HOURS, Counters([3, 3])),
            (CUBE, Counters([1, 3, 3])),
            (Machine([*CUBE.tables, CUBE.tables[2]]), Counters([3, 1, 1, 3])), (TWISTED, Counters([1, 1])),
        ):
            paper = split_paper(machine, 0, counters, most=2000)
            self.same(split_holds(machine, 0, counters, paper, most=2000), True)
            doings = all_doings(machine, 0, counters, most=2000)
            self.assertEqual(len(paper) * fold_size(machine, 0, counters), len(doings))
            self.assertTrue(is_split(machine, 0, counters, paper))
            self.assertEqual(made_by(machine, 0, counters, paper), frozenset(paper))

    def test_four_kinds_at_folds_to_4(self):
        for seed in range(12):
            machine = turned(seed + 30, 4, 4)
            for counters in (Counters([2, 2, 2, 2]), Counters([1, 2, 1, 2]), Counters([2, 1, 3, 1])):
                paper = split_paper(machine, 0, counters, most=2000)
                fold = fold_size(machine, 0, counters)
                self.assertEqual(paper is not None, fewest_standings(machine, 0, counters, most=50000) == fold)
                if paper is not None:
                    self.same(split_holds(machine, 0, counters, paper, most=2000), True)

    def test_told_ones(self):
        self.same(split_paper(WHEEL, 0, TWO, most=9), None)
        self.same(split_holds(THREE, 0, HALVES, SPLIT, most=6), True)
        self.same(split_holds(THREE, 0, HALVES, [list(one) for one in SPLIT[::-1]], most=6), True)
        self.same(split_holds(THREE, 0, HALVES, [NOTHING, ((1, 0, 2), (0, 1))], most=6), True)
        self.same(split_holds(THREE, 0, HALVES, [NOTHING, ((0, 1, 2), (0, 1))], most=6), False)
        self.same(split_holds(THREE, 0, HALVES, [NOTHING], most=6), False)
        self.same(split_holds(THREE, 0, HALVES, all_doings(THREE, 0, HALVES, most=6), most=6), False)
        self.same(split_holds(PARTLY, 1, Counters([1, 1]), (((1, 2, 3), (0, 0)), ((1, 3, 2), (0, 0))), most=6), True)
        self.same(split_holds(PARTLY, 1, Counters([1, 1]), (((1, 2, 3), (0, 0)),), most=6), False)
        self.same(split_paper(PARTLY, 1, Counters([1, 1]), most=6), (((1, 2, 3), (0, 0)), ((1, 3, 2), (0, 0))))
        self.same(split_paper(TURN, 3, HALVES, most=6), (((3,), (0, 0)), ((3,), (0, 1))))

    def test_bent_and_any_value(self):
        paper = split_paper(THREE, 0, HALVES, most=6)
        for value in list(bent(paper)) + list(bent(SPLIT)):
            self.same(split_holds(THREE, 0, HALVES, value, most=6), False, value)
        for value in any_values():
            self.same(split_holds(THREE, 0, HALVES, value, most=6), False)
            self.same(split_holds(WHEEL, 0, TWO, value, most=6), False)

    def test_search(self):
        for call, more in ((split_paper, ()), (split_holds, (SPLIT,))):
            self.is_search(6, call, THREE, 0, HALVES, *more)
            self.refuses(TooGreat, {"most": 5}, call, THREE, 0, HALVES, *more, most=5)


class ErrorsTest(Promises):

    def test_in_their_order(self):
        calls = (
            lambda *args: is_kept_group(*args, None, most=1), lambda *args: coset_witness(*args, None, most=1),
            lambda *args: split_paper(*args, most=1), lambda *args: split_holds(*args, None, most=1),
            lambda *args: kept_doings(*args, WHEEL, None, most=1),
        )
        refused = (TWO, Counters([2] * 3), Counters([0, 2]), Counters([2, 0]), Counters([2, 2], [0, 1]),
                   Counters([1, 1], [6, 0]))
        for call in calls:
            for value in any_values():
                if not (type(value) is int and 0 <= value < 3):
                    self.keeps(NoState, "state", value, call, FORGETS, value, TWO)
            for counters in refused:
                self.keeps(Refused, "at", counters, call, FORGETS, 0, counters)
                self.keeps(Refused, "at", counters, call, SWAPS, 0, counters)
            self.refuses(Forgets, {"deed": 0, "one": 0, "other": 1}, call, FORGETS, 0, HALVES)
            self.refuses(Forgets, {"deed": 1, "one": 1, "other": 2}, call, FORGETS, 1, HALVES)


if __name__ == "__main__":
    unittest.main()
