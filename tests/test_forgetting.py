"""Points [38] to [42]: machines that forget, counters alone, and what folders and witnesses need beside counters."""

import unittest
from itertools import product

from onewitness.counters import Counters
from onewitness.errors import NoState, Refused, TooGreat
from onewitness.forgetting import (
    alone_paper, fewest_witness, least_alone, open_web, state_colours, three_numbers,
)
from onewitness.leastones import fewest_standings
from onewitness.lots import needed_values, open_lots
from onewitness.machines import Machine, led, reached
from onewitness.witnesses import is_telling
from tests.helper import (
    CUBE, EIGHT, FORGETS, HOURS, ORDERS, PARTLY, SQUARE, SWAPS, TURN, WHEEL, Promises, all_tables, any_values,
    are_numbers_below, counted, ends, exact, exchanging, in_full_as_rounds, loose_tables, points_by_length, turned,
)

STEPS = Machine([(1, 2, 3, 4, 2), (0, 1, 2, 3, 4)])
CELL = Machine([(0, 0), (1, 1)])
TRIANGLE = Machine([(1, 7, 5, 6, 7, 7, 7, 7), (2, 4, 7, 6, 7, 7, 7, 7), (3, 5, 4, 7, 7, 7, 7, 7)])
# A tail of seven states to one that stays, and one of six to a circle of two.
TAIL = Machine([(1, 2, 3, 4, 5, 6, 7, 7)])
TAIL_TO_TWO = Machine([(1, 2, 3, 4, 5, 6, 7, 6)])


def told():
    """Machines of all kinds, with a first state."""
    found = [(STEPS, 0), (CELL, 0), (TRIANGLE, 0), (FORGETS, 0), (FORGETS, 1), (PARTLY, 0), (PARTLY, 1), (TAIL, 0),
             (TAIL_TO_TWO, 0), (TAIL_TO_TWO, 5), (SWAPS, 0), (WHEEL, 1), (SQUARE, 0), (TURN, 3), (CUBE, 0), (ORDERS, 0)]
    found += [(Machine([(1, 1), (1, 1)]), 0), (Machine([(0, 0, 0), (0, 1, 0)]), 2)]
    found += [(Machine([(1, 2, 2), (2, 2, 2)]), 0)]
    found += [(loose_tables(seed, 2 + seed % 5, 1 + seed % 3), 0) for seed in range(60)]
    return found + [(turned(seed, 2 + seed % 4, 1 + seed % 3), 0) for seed in range(12)]


def few_counters(kinds):
    several = [((1, 1, 1), ()), ((2, 2, 2), ()), ((1, 1, 1), (1, 1, 1)), ((2, 3, 1), (0, 2, 1)), ((1, 2, 1), (3, 0, 2)),
               ((6, 1, 2), (2, 0, 0)), ((1, 1, 1), (6, 6, 6)), ((4, 6, 1), (1, 1, 1))]
    return [Counters(rounds[:kinds], rests[:kinds]) for rounds, rests in several]


def states_by_showing(machine, first, counters):
    found = {}
    for (state,), showing in points_by_length([machine], [first], counters):
        found.setdefault(showing, set()).add(state)
    return found


def counters_tell_alone(machine, first, rounds, rests):
    """Whether rows of one showing always lead to one state, for rounds from 1 on and rests of any size."""
    states = {(0,) * machine.deeds: first}
    waiting = list(states.items())
    for showing, state in waiting:
        for deed, (turn, rest) in enumerate(zip(rounds, rests)):
            many = showing[deed] + 1
            if many == turn + rest:
                many = rest
            later = (*showing[:deed], many, *showing[deed + 1:])
            if later not in states:
                states[later] = machine.tables[deed][state]
                waiting.append((later, states[later]))
            if states[later] != machine.tables[deed][state]:
                return False
    return True


class AloneTest(Promises):

    def check_paper(self, machine, first, counters, paper):
        one, other = paper
        self.assertEqual((type(paper), type(one), type(other)), (tuple, tuple, tuple))
        self.assertTrue(are_numbers_below(one, machine.deeds) and are_numbers_below(other, machine.deeds))
        self.assertEqual(counted(counters, one), counted(counters, other))
        self.assertNotEqual(ends(machine, first, one), ends(machine, first, other))

    def test_against_walks(self):
        seen = []
        for machine, first in told():
            for counters in few_counters(machine.deeds):
                alone = all(len(states) == 1 for states in states_by_showing(machine, first, counters).values())
                paper = alone_paper(machine, first, counters)
                if alone:
                    self.same(paper, None, (machine.tables, counters.rounds, counters.rests))
                else:
                    self.check_paper(machine, first, counters, paper)
                seen.append(alone)
        self.assertTrue(50 < seen.count(True) < len(seen) - 50)

    def test_in_full(self):
        seen = []
        for machine, first in told():
            for rounds, rests in (((0, 0, 0), ()), ((0, 2, 0), (0, 1, 0)), ((2, 0, 1), (6, 3, 6)),
                                  ((0, 1, 1), (2, 6, 6))):
                counters = Counters(rounds[:machine.deeds], rests[:machine.deeds])
                paper = alone_paper(machine, first, counters)
                if paper is not None:
                    self.check_paper(machine, first, counters, paper)
                    continue
                length = {1: 9, 2: 7, 3: 5}[machine.deeds]
                states = {}
                for many in range(length + 1):
                    for row in product(range(machine.deeds), repeat=many):
                        states.setdefault(counted(counters, row), set()).add(ends(machine, first, row))
                self.assertEqual({len(found) for found in states.values()}, {1})
                seen.append(machine.deeds)
        self.assertGreaterEqual(set(seen), {1, 2, 3})

    def test_rounds_in_full_of_machines_that_exchange(self):
        for machine, first in exchanging():
            for rounds in ((0, 0, 0, 0), (2, 0, 1, 0)):
                counters = Counters(rounds[:machine.deeds])
                finite = in_full_as_rounds(counters, (machine, first))
                if max(finite.rounds) ** machine.deeds < 500:
                    alone = all(len(states) == 1 for states in states_by_showing(machine, first, finite).values())
                    self.same(alone_paper(machine, first, counters) is None, alone)

    def test_by_the_condition_told(self):
        for machine, first in told():
            for rounds, rests in (((2, 3, 6), (2, 0, 1)), ((0, 4, 60), (0, 6, 1)), ((12, 0, 1), (5, 0, 6))):
                rounds, rests = rounds[:machine.deeds], rests[:machine.deeds]
                right = True
                for state in reached(machine, first):
                    for one, other in product(range(machine.deeds), repeat=2):
                        right = right and led(machine, state, (one, other)) == led(machine, state, (other, one))
                    for deed, (turn, rest) in enumerate(zip(rounds, rests)):
                        both = led(machine, state, [deed] * (rest + turn))
                        right = right and (turn == 0 or both == led(machine, state, [deed] * rest))
                self.same(alone_paper(machine, first, Counters(rounds, rests)) is None, right)

    def test_told_ones(self):
        self.same(alone_paper(STEPS, 0, Counters((6, 1), (2, 0))), None)
        self.same(alone_paper(STEPS, 0, Counters((0, 0))), None)
        for rounds, rests in (((6, 1), (1, 0)), ((2, 1), (2, 0)), ((1, 1), (6, 0)), ((3, 1), ()), ((60, 1), (1, 6))):
            self.check_paper(STEPS, 0, Counters(rounds, rests), alone_paper(STEPS, 0, Counters(rounds, rests)))
        self.check_paper(CELL, 0, Counters((0, 0)), alone_paper(CELL, 0, Counters((0, 0))))
        # State 3 alone does not hang on the order, nor on the number.
        self.same(alone_paper(TURN, 3, Counters((1, 1))), None)
        self.same(alone_paper(machine=TAIL, first=2, counters=Counters((1,), (5,))), None)
        self.check_paper(TAIL, 1, Counters((60,), (5,)), alone_paper(TAIL, 1, Counters((60,), (5,))))
        self.check_paper(TAIL, 0, Counters((60,), (6,)), alone_paper(TAIL, 0, Counters((60,), (6,))))


class LeastAloneTest(Promises):

    def test_the_least_and_no_others(self):
        seen = []
        for machine, first in told():
            found = least_alone(machine, first)
            seen.append(found is None)
            apart = any(led(machine, state, (one, other)) != led(machine, state, (other, one))
                        for state in reached(machine, first) for one, other in product(range(machine.deeds), repeat=2))
            self.same(found is None, apart)
            if found is None:
                self.assertFalse(counters_tell_alone(machine, first, (60,) * machine.deeds, (8,) * machine.deeds))
                continue
            self.assertEqual((type(found), type(found[0]), type(found[1])), (tuple, tuple, tuple))
            rounds, rests = found
            self.assertTrue(counters_tell_alone(machine, first, rounds, rests))
            for kind in range(machine.deeds):
                for turn, rest in product((1, 2, 3, 4, 5, 6, 12), range(9)):
                    others = [*rounds[:kind], turn, *rounds[kind + 1:]]
                    longer = [*rests[:kind], rest, *rests[kind + 1:]]
                    self.same(counters_tell_alone(machine, first, others, longer),
                              turn % rounds[kind] == 0 and rest >= rests[kind])
        self.assertTrue(20 < seen.count(True) < len(seen) - 20)

    def test_told_ones(self):
        self.same(least_alone(STEPS, 0), ((3, 1), (2, 0)))
        self.same(least_alone(STEPS, 1), ((3, 1), (1, 0)))
        self.same(least_alone(STEPS, 2), ((3, 1), (0, 0)))
        self.same(least_alone(CELL, 0), None)
        self.same(least_alone(TAIL, 0), ((1,), (7,)))
        self.same(least_alone(TAIL, 1), ((1,), (6,)))
        self.same(least_alone(TAIL_TO_TWO, 0), ((2,), (6,)))
        self.same(least_alone(CUBE, 7), ((2, 2, 2), (0, 0, 0)))
        self.same(least_alone(HOURS, 0), ((4, 8), (0, 0)))
        self.same([least_alone(TURN, 0), least_alone(TURN, 3)], [None, ((1, 1), (0, 0))])
        self.same(least_alone(machine=EIGHT, first=3), ((8,), (0,)))
        # Circles of 3 and 5 of one kind, to which another one leads, and which it leaves alone.
        apart = Machine([(1, 2, 0, 4, 5, 6, 7, 3)])
        self.same([least_alone(apart, 0), least_alone(apart, 4)], [((3,), (0,)), ((5,), (0,))])


class WebTest(Promises):

    def web_by_walk(self, machine, first, counters):
        return tuple(sorted({(one, other) for states in states_by_showing(machine, first, counters).values()
                             for one in states for other in states if one < other}))

    def test_web_against_walks(self):
        for machine, first in told():
            for counters in few_counters(machine.deeds)[::2]:
                needed = len(points_by_length([machine], [first], counters))
                wanted = self.web_by_walk(machine, first, counters)
                self.same(self.is_search(needed, open_web, machine, first, counters), wanted)
                for most in {1, needed // 2, needed - 1}:
                    if 1 <= most < needed:
                        for call in (open_web, state_colours):
                            self.refuses(TooGreat, {"most": most}, call, machine, first, counters, most=most)

    def colours_by_trial(self, machine, first, counters):
        """The first of all tuples, those of few unlike numbers ahead, in their order."""
        come, web = reached(machine, first), self.web_by_walk(machine, first, counters)
        for many in range(1, len(come) + 1):
            for colours in product(range(many), repeat=len(come)):
                number = dict(zip(come, colours))
                if len(set(colours)) == many and all(number[one] != number[other] for one, other in web):
                    return tuple(number.get(state) for state in range(machine.states))

    def test_colours_against_all_tuples(self):
        seen = set()
        for machine, first in told():
            if len(reached(machine, first)) > 6:
                continue
            for counters in few_counters(machine.deeds)[::2]:
                needed = len(points_by_length([machine], [first], counters))
                wanted = self.colours_by_trial(machine, first, counters)
                self.same(self.is_search(needed, state_colours, machine, first, counters), wanted,
                          (machine.tables, counters.rounds, counters.rests))
                seen.add(len(set(wanted) - {None}))
        self.assertGreaterEqual(seen, {1, 2, 3, 4})

    def test_fewer_numbers_go_ahead_of_lesser_tuples(self):
        machine = Machine([(1, 1, 4, 2, 5, 5), (0, 5, 4, 2, 4, 5), (2, 4, 5, 2, 4, 5)])
        counters = Counters((1, 1, 1), (1, 1, 2))
        self.same(open_web(machine, 0, counters, most=4000), ((1, 5), (2, 4), (4, 5)))
        # With three numbers the least tuple would begin 0, 0, 0.
        self.same(state_colours(machine, 0, counters, most=4000), (0, 0, 1, None, 0, 1))
        self.same(self.colours_by_trial(machine, 0, counters), (0, 0, 1, None, 0, 1))
        self.same(self.colours_by_trial(TRIANGLE, 0, Counters((1, 1, 1), (2, 2, 2))),
                  state_colours(TRIANGLE, 0, Counters((1, 1, 1), (2, 2, 2)), most=4000))

    def test_told_ones(self):
        for rounds in ((1, 1), (2, 2), (1, 3)):
            self.same(open_web(CELL, 0, Counters(rounds), most=99), ((0, 1),))
            self.same(state_colours(CELL, 0, Counters(rounds), most=99), (0, 1))
        self.same(open_web(CELL, 0, Counters((1, 1)), most=2), ((0, 1),))
        self.same(open_web(STEPS, 0, Counters((6, 1), (2, 0)), most=8), ())
        self.same(state_colours(STEPS, 3, Counters((6, 1), (2, 0)), most=8), (None, None, 0, 0, 0))
        self.same(state_colours(WHEEL, 0, Counters((2,)), most=4), (0, 0, 1, 1))
        self.same(state_colours(WHEEL, 0, Counters((1,)), most=4), (0, 1, 2, 3))
        self.same(state_colours(PARTLY, 1, Counters((1, 1)), most=9), (None, 0, 1, 2, None, None))
        self.same(state_colours(EIGHT, 1, Counters((1,)), most=8), (0, 1, 2, 3, 4, 5, 6, 7))
        self.same(open_web(machine=EIGHT, first=1, counters=Counters((4,)), most=8), ((0, 4), (1, 5), (2, 6), (3, 7)))

    def test_errors_in_their_order(self):
        for call in (open_web, state_colours, fewest_witness, three_numbers):
            for value in any_values():
                if not (type(value) is int and 0 <= value < 3):
                    self.keeps(NoState, "state", value, call, FORGETS, value, Counters((0,)), most=1)
            for counters in (Counters((2,)), Counters((0,)), Counters((0, 0)), Counters((2, 0), (1, 1)),
                             Counters((0, 60), (1, 1)), Counters((60, 60, 60))):
                self.keeps(Refused, "at", counters, call, FORGETS, 0, counters, most=1)
        for call in (alone_paper, least_alone):
            for value in any_values():
                if not (type(value) is int and 0 <= value < 3):
                    args = (Counters((0,)),) if call is alone_paper else ()
                    self.keeps(NoState, "state", value, call, FORGETS, value, *args)
        for counters in (Counters((2,)), Counters((0, 0, 0))):
            self.keeps(Refused, "at", counters, alone_paper, FORGETS, 0, counters)


def tells_by_walk(machine, first, counters, witness):
    points = points_by_length([machine, witness], [first, 0], counters)
    return len({(standing, showing) for (state, standing), showing in points}) == len(points)


def with_few_witnesses(machine):
    """How many standings witnesses may have that are gone through one by one."""
    return {1: 4, 2: 2, 3: 2, 4: 1}[machine.deeds]


class FewestWitnessTest(Promises):

    def within(self):
        return [(machine, first) for machine, first in told()
                if len(reached(machine, first)) <= 6 and machine.deeds <= 2]

    def test_it_tells_and_none_with_fewer_does(self):
        seen = set()
        for machine, first in self.within():
            for counters in few_counters(machine.deeds)[::2]:
                try:
                    witness = fewest_witness(machine, first, counters, most=4000)
                except TooGreat as error:
                    self.same(error.most, 4000)
                    continue
                self.assertIs(type(witness), Machine)
                self.same(witness.deeds, machine.deeds)
                self.assertTrue(tells_by_walk(machine, first, counters, witness))
                self.assertLessEqual(witness.states, len(reached(machine, first)))
                for standings in range(1, min(witness.states, with_few_witnesses(machine) + 1)):
                    for other in all_tables(standings, machine.deeds):
                        self.assertFalse(is_telling(machine, first, counters, other, most=20000))
                seen.add((witness.states, len(reached(machine, first))))
        self.assertGreater(len(seen), 12)

    def test_three_standings_of_two_kinds(self):
        tried = 0
        for machine, first in self.within():
            counters = few_counters(machine.deeds)[3]
            if machine.deeds == 2 and tried < 3:
                witness = fewest_witness(machine, first, counters, most=4000)
                if witness.states == 4:
                    tried += 1
                    self.assertFalse([other for other in all_tables(3, 2)
                                      if is_telling(machine, first, counters, other, most=20000)])
        self.assertEqual(tried, 3)

    def test_too_great_only_for_more_machines_than_most(self):
        for machine, first in self.within():
            counters = few_counters(machine.deeds)[1]
            wanted = fewest_witness(machine, first, counters, most=4000).states
            needed = sum(standings ** (standings * machine.deeds) for standings in range(1, wanted + 1))
            for most in (1, 2, needed // 2, needed - 1, needed):
                if most >= 1:
                    try:
                        self.same(fewest_witness(machine, first, counters, most=most).states, wanted)
                    except TooGreat as error:
                        self.same(error.most, most)
                        self.assertLess(most, needed)

    def test_of_machines_that_exchange_as_few_as_of_witnesses_that_exchange(self):
        for machine, first in exchanging():
            if len(reached(machine, first)) <= 6 and machine.deeds <= 2:
                for rounds in ((1, 1), (2, 2), (2, 3), (6, 1)):
                    counters = Counters(rounds[:machine.deeds])
                    self.same(fewest_witness(machine, first, counters, most=4000).states,
                              fewest_standings(machine, first, counters, most=50000))

    def test_two_standings_of_many_kinds(self):
        flips = Machine([(1, 0)] * 4)
        self.same(fewest_witness(flips, 0, Counters((1, 2, 1, 2)), most=4000).states, 2)
        self.same(fewest_witness(flips, 0, Counters((2, 2, 2, 4)), most=1).states, 1)
        cells = Machine([(0, 0), (1, 1), (0, 1), (1, 0)])
        witness = fewest_witness(cells, 1, Counters((2, 1, 3, 2), (1, 2, 0, 0)), most=4000)
        self.same(witness.states, 2)
        self.assertTrue(tells_by_walk(cells, 1, Counters((2, 1, 3, 2), (1, 2, 0, 0)), witness))
        witness = fewest_witness(TRIANGLE, 0, Counters((1, 1, 1), (2, 2, 2)), most=4000)
        self.same(witness.states, 2)
        self.assertTrue(tells_by_walk(TRIANGLE, 0, Counters((1, 1, 1), (2, 2, 2)), witness))

    def test_told_ones(self):
        self.same(fewest_witness(CELL, 0, Counters((1, 1)), most=99).states, 2)
        self.same(fewest_witness(STEPS, 0, Counters((6, 1), (2, 0)), most=1), Machine([(0,), (0,)]))
        # What stands apart from all that comes later has no standing of theirs, nor have those that come ahead of it.
        self.same(fewest_witness(TAIL, 0, Counters((1,), (6,)), most=4000).states, 8)
        self.same(fewest_witness(TAIL, 3, Counters((1,), (2,)), most=4000).states, 5)
        self.same(fewest_witness(TAIL_TO_TWO, 5, Counters((2,)), most=4000).states, 2)
        self.same(fewest_witness(WHEEL, 2, Counters((2,)), most=4000).states, 4)
        self.same(fewest_witness(machine=TURN, first=3, counters=Counters((1, 1)), most=1).states, 1)

    def test_4000_pairs_and_one_more(self):
        one = Machine([(0,), (0,), (0,)])
        # From state 1 on 0 comes with all showings, and 1 with the first one alone.
        one_more = Machine([(0, 0), (0, 0), (0, 0)])
        for machine, first, rounds, rests, many in (
            (one, 0, (40, 50, 2), (), 4000), (one, 0, (40, 50, 1), (0, 0, 1), 4000), (one, 0, (59, 4, 17), (), 4012),
            (one_more, 1, (40, 50, 2), (), 4001), (one_more, 1, (31, 43, 3), (), 4000),
            (CUBE, 0, (10, 20, 20), (), 4000), (CUBE, 0, (7, 13, 11), (), 8008),
        ):
            counters = Counters(rounds, rests)
            self.assertEqual(len(points_by_length([machine], [first], counters)), many)
            for call in (fewest_witness, three_numbers):
                for most in (1, 300, 4000):
                    if many > 4000:
                        self.refuses(TooGreat, {"most": 4000}, call, machine, first, counters, most=most)
                    elif machine is not one_more:
                        self.same(call(machine, first, counters, most=most), call(machine, first, counters, most=20000))
        self.same(fewest_witness(one, 0, Counters((40, 50, 2)), most=1), Machine([(0,)] * 3))
        self.same(three_numbers(one, 0, Counters((40, 50, 2)), most=1), (1, 1, 1))
        # The first showing leaves both states open.
        self.same(three_numbers(one_more, 1, Counters((31, 43, 3)), most=4000), (2, 2, 2))
        self.refuses(TooGreat, {"most": 4000}, three_numbers, one_more, 1, Counters((40, 50, 2)), most=20000)


class ThreeNumbersTest(Promises):

    def test_against_the_parts_and_one_another(self):
        seen = set()
        for machine, first in told():
            if len(reached(machine, first)) > 6 or machine.deeds > 2:
                continue
            for counters in few_counters(machine.deeds)[1::2]:
                try:
                    numbers = three_numbers(machine, first, counters, most=4000)
                except TooGreat as error:
                    self.same(error.most, 4000)
                    self.assertRaises(TooGreat, fewest_witness, machine, first, counters, most=4000)
                    continue
                greatest = max(len(states) for _, states in open_lots(machine, first, counters, most=4000))
                colours = set(state_colours(machine, first, counters, most=4000)) - {None}
                witness = fewest_witness(machine, first, counters, most=4000)
                self.same(numbers, (greatest, len(colours), witness.states))
                self.same(numbers[0], needed_values(machine, first, counters, most=4000))
                self.assertTrue(numbers[0] <= numbers[1] and numbers[0] <= numbers[2])
                seen.add((numbers[1] > numbers[0], numbers[2] > numbers[0]))
        self.assertGreaterEqual(seen, {(False, False), (False, True)})

    def test_neither_bounds_the_other_one(self):
        self.same(three_numbers(TRIANGLE, 0, Counters((1, 1, 1), (2, 2, 2)), most=4000), (2, 3, 2))
        self.same(three_numbers(WHEEL, 0, Counters((2,)), most=4000), (2, 2, 4))

    def test_told_ones(self):
        self.same(three_numbers(CELL, 0, Counters((2, 2)), most=99), (2, 2, 2))
        self.same(three_numbers(STEPS, 0, Counters((6, 1), (2, 0)), most=1), (1, 1, 1))
        self.same(three_numbers(machine=EIGHT, first=0, counters=Counters((1,)), most=1), (8, 8, 8))

    def test_machines_that_exchange_without_rests(self):
        for machine, first in exchanging():
            if len(reached(machine, first)) <= 6 and machine.deeds <= 2:
                for rounds in ((1, 1), (2, 3), (4, 2)):
                    greatest, colours, _ = three_numbers(machine, first, Counters(rounds[:machine.deeds]), most=4000)
                    self.same(greatest, colours)

    def test_equal_answers_each_time(self):
        answers = [exact(fewest_witness(FORGETS, 0, Counters((2, 2)), most=4000).tables) for _ in range(3)]
        self.assertEqual(answers[0], answers[1])
        self.assertEqual(answers[1], answers[2])


if __name__ == "__main__":
    unittest.main()
