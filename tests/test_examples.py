"""The examples of the document, as they stand in it, and those of README.md."""

import doctest
import os
import unittest

README = os.path.join(os.path.dirname(os.path.dirname(os.path.abspath(__file__))), "README.md")

SECTION_3 = r'''
    >>> from onewitness.counters import Counters, all_showings, shown, shown_number, shown_on, showings_many
    >>> from onewitness.machines import Machine, forgotten, led, reached
    >>> from onewitness.texts import counters_text, read_showing
    >>> turn = Machine([(1, 2, 0, 3), (1, 0, 2, 3)])
    >>> led(turn, 0, (0, 1, 0)), reached(turn, 2), forgotten(turn, 0), forgotten(Machine([(1, 1, 2), (2, 2, 2)]), 0)
    (1, (0, 1, 2), None, (0, 0, 1))
    >>> counters = Counters([2, 0, 3], [0, 0, 1])
    >>> shown(counters, (0, 1, 0, 2, 0, 2, 1)), shown_on(counters, (1, 2, 3), 2), [shown_number(counters, 2, many) for many in range(6)]
    ((1, 2, 2), (1, 2, 1), [0, 1, 2, 3, 1, 2])
    >>> showings_many(Counters((2, 1), (0, 2))), all_showings(Counters((2, 1)), most=9), counters_text(counters).split("\n")
    (6, ((0, 0), (1, 0)), ['rounds 2 0 3', 'rests 0 0 1'])
    >>> read_showing(counters, "1 40 3")
    (1, 40, 3)
'''

SECTION_1 = r'''
    >>> from onewitness.counters import Counters
    >>> from onewitness.lots import fold_size, lots_of
    >>> from onewitness.machines import Machine
    >>> lots_of(Machine([(1, 2, 3, 0)]), 0, Counters([2])), fold_size(Machine([(1, 0, 2), (0, 2, 1)]), 0, Counters([0, 0]))
    (((0, 2), (1, 3)), 3)
'''

SECTION_4 = r'''
    >>> from onewitness.counters import Counters
    >>> from onewitness.lots import fold_size, fold_values, lot_rows, lot_shown, lots_of, needed_values, open_lot, open_lots, rows_hold
    >>> from onewitness.lots import told_state, values_hold
    >>> from onewitness.machines import Machine
    >>> from onewitness.settling import settled
    >>> turn, two = Machine([(1, 2, 3, 0)]), Counters([2])
    >>> lots_of(turn, 0, two), fold_size(turn, 0, two), fold_values(turn, 0, two), lot_shown(turn, 0, two, (1,))
    (((0, 2), (1, 3)), 2, (0, 0, 1, 1), (1, 3))
    >>> told_state(turn, 0, two, (1,), 1), open_lots(turn, 0, two, most=50), open_lot(turn, 0, Counters([2], [1]), (0,), most=50)
    (3, (((0,), (0, 2)), ((1,), (1, 3))), (0,))
    >>> swaps = Machine([(1, 0, 2), (0, 2, 1)])
    >>> fold_size(swaps, 0, Counters([0, 0])), settled(swaps, 0, [], [2, 2]), needed_values(swaps, 0, Counters([2, 3]), most=50)
    (3, ((0,), (1,), (2,)), 3)
    >>> len(lot_rows(swaps, 0, Counters([0, 0]), most=500)), rows_hold(swaps, 0, Counters([2, 2]), ((0, 1, 0, 1), (), [1, 0, 1, 0]))
    (3, True)
    >>> values_hold(turn, 0, two, [1, 0, 0, 1]), values_hold(turn, 0, two, [0, 0, 0, 1])
    (True, False)
'''

SECTION_5 = r'''
    >>> from onewitness.boards import board_basis, board_of, joint_counters, joint_holds, lot_after, needless_kinds, orders_of, plain_rounds
    >>> from onewitness.boards import tell_alike
    >>> from onewitness.cheapest import cheapest_rounds, fold_curve, kind_worth
    >>> from onewitness.counters import Counters
    >>> from onewitness.machines import Machine
    >>> orders = Machine([(1, 2, 0, 4, 5, 3), (3, 5, 4, 0, 2, 1)])
    >>> board_of(orders, 0), orders_of(orders, 0), needless_kinds(orders, 0), fold_curve(orders, 0)
    ((((0, 1, 2), (3, 4, 5)), ((0, 1), (1, 0))), (1, 2), (0,), ((1, 6), (2, 3)))
    >>> hours = Machine([(2, 3, 4, 5, 6, 7, 0, 1), (1, 2, 3, 4, 5, 6, 7, 0)])
    >>> full = Counters((0, 0))
    >>> orders_of(hours, 0), plain_rounds(hours, 0, Counters((6, 12))), board_basis(hours, 0, full), lot_after(hours, 3, full, (-1, 10 ** 20))
    ((4, 8), (2, 4), ((4, 0), (3, 2)), (1,))
    >>> [turn for weights, turn in joint_counters(hours, 0, full)], joint_holds(hours, 0, full, [([2, 1], 8)]), kind_worth(hours, 0, full, 1)
    ([8], True, 8)
    >>> cheapest_rounds(hours, 0, 2), cheapest_rounds(hours, 0, 1), fold_curve(hours, 0), tell_alike(hours, 0, full, Counters((4, 8)))
    ((2, 4), (4, 8), ((1, 8), (2, 4), (8, 2), (32, 1)), True)
'''

SECTION_6 = r'''
    >>> from onewitness.counters import Counters
    >>> from onewitness.leastones import fewest_standings, least_witness
    >>> from onewitness.machines import Machine
    >>> from onewitness.witnesses import beaten_holds, beaten_rows, is_telling, states_left
    >>> turn, two = Machine([(1, 2, 3, 0)]), Counters([2])
    >>> least_witness(turn, 0, two, most=500), fewest_standings(turn, 0, Counters([1]), most=500), fewest_standings(turn, 0, Counters([0]), most=500)
    (((1, 2, 3, 0),), 4, 1)
    >>> third = Machine([(1, 2, 0)])
    >>> is_telling(turn, 0, two, third, most=100), beaten_holds(turn, 0, two, third, 0, ((), (0,) * 6)), states_left(turn, 0, two, third, (1,), 2, most=100)
    (False, True, (1, 3))
    >>> beaten_rows(turn, 0, Counters([4]), third, most=100), is_telling(turn, 0, two, Machine([(1, 1)]), most=100)
    (None, False)
    >>> swaps = Machine([(1, 0, 2), (0, 2, 1)])
    >>> fewest_standings(swaps, 0, Counters([0, 0]), most=500), is_telling(swaps, 0, Counters([0, 0]), swaps, most=100)
    (3, True)
'''

SECTION_7 = r'''
    >>> from onewitness.counters import Counters
    >>> from onewitness.doings import all_doings, doing_of, is_free, keepers, still_doings
    >>> from onewitness.machines import Machine
    >>> from onewitness.splits import coset_witness, is_kept_group, kept_doings, split_paper
    >>> three, halves = Machine([(1, 2, 0), (1, 0, 2)]), Counters((1, 2))
    >>> doing_of(three, 0, halves, (0, 1, 0)), len(all_doings(three, 0, halves, most=9)), is_free(three, 0)
    (((1, 0, 2), (0, 1)), 6, False)
    >>> still_doings(three, 0, halves, most=9), keepers(three, 0, halves, most=9)
    (((0, 1, 2), (1, 2, 0), (2, 0, 1)), ((0, 1, 2),))
    >>> split = [((0, 1, 2), (0, 0)), ((2, 1, 0), (0, 1))]
    >>> is_kept_group(three, 0, halves, split, most=9), coset_witness(three, 0, halves, split, most=9).tables
    (True, ((1, 2, 0), (2, 1, 0)))
    >>> turn = Machine([(1, 2, 3, 0)])
    >>> kept_doings(turn, 0, Counters((2,)), turn, most=9), split_paper(turn, 0, Counters((2,)), most=9)
    ((((0, 1, 2, 3), (0,)),), None)
    >>> eight = Machine([(1, 2, 3, 0, 5, 6, 7, 4), (4, 7, 6, 5, 2, 1, 0, 3)])
    >>> is_free(eight, 0), len(still_doings(eight, 0, Counters((2, 2)), most=8)), split_paper(eight, 0, Counters((2, 2)), most=8)
    (True, 2, None)
    >>> pairs = Machine([(3, 0, 4, 1, 5, 2), (0, 4, 3, 2, 1, 5)])
    >>> is_free(pairs, 0), len(still_doings(pairs, 0, Counters((3, 1)), most=12)), split_paper(pairs, 0, Counters((3, 1)), most=12)
    (False, 4, None)
'''

SECTION_8 = r'''
    >>> from onewitness.counters import Counters
    >>> from onewitness.logs import Logs, apart_pairs, fewest_pairs, log_fold, log_lots, log_rows, loose_kinds, sight_of, unseen_pairs
    >>> from onewitness.machines import Machine, led
    >>> from onewitness.several import needless_lookers, several_rows, several_tell, standings_of
    >>> swaps = Machine([(1, 0, 2), (0, 2, 1), (2, 1, 0)])
    >>> logs = Logs((0, 0, 2), [(0, 1)])
    >>> unseen_pairs(logs), loose_kinds(logs), sight_of(logs, (0, 2, 1, 2, 2, 0)), log_lots(swaps, 0, logs)
    (((0, 2), (1, 2)), (2,), (((0, 1, 0),), (1,)), ((0, 1, 2),))
    >>> apart_pairs(swaps, 0), log_fold(swaps, 0, Logs((0, 0, 0), [(0, 1), (0, 2), (1, 2)])), fewest_pairs(swaps, 0, (2, 2, 2), 2)
    (((0, 1), (0, 2), (1, 2)), 1, ((0, 1), (0, 2), (1, 2)))
    >>> rows = log_rows(swaps, 0, logs)
    >>> [state for state, row in rows], {sight_of(logs, row) == sight_of(logs, rows[0][1]) for state, row in rows}
    ([0, 1, 2], {True})
    >>> two = Machine([(1, 0, 3, 2), (2, 3, 0, 1)])
    >>> half, flip = Counters((2, 1)), Machine([(1, 0)])
    >>> several_tell(two, 0, half, [((1,), flip, 0)]), len({led(two, 0, row) for row in several_rows(two, 0, half, [])})
    (True, 2)
    >>> standings_of(two, [((1,), flip, 0)], (1, 0, 1, 1)), needless_lookers(two, 0, half, [((1,), flip, 0), ((0, 1), two, 0)])
    ((1,), (0, 1))
'''

SECTION_9 = r'''
    >>> from onewitness.counters import Counters
    >>> from onewitness.forgetting import alone_paper, fewest_witness, least_alone, open_web, state_colours, three_numbers
    >>> from onewitness.machines import Machine
    >>> steps = Machine([(1, 2, 3, 4, 2), (0, 1, 2, 3, 4)])
    >>> least_alone(steps, 0), alone_paper(steps, 0, Counters((6, 1), (2, 0))), alone_paper(steps, 0, Counters((0, 0)))
    (((3, 1), (2, 0)), None, None)
    >>> cell = Machine([(0, 0), (1, 1)])
    >>> least_alone(cell, 0), open_web(cell, 0, Counters((1, 1)), most=9), state_colours(cell, 0, Counters((1, 1)), most=9)
    (None, ((0, 1),), (0, 1))
    >>> fewest_witness(cell, 0, Counters((1, 1)), most=99).states, three_numbers(cell, 0, Counters((2, 2)), most=99)
    (2, (2, 2, 2))
    >>> triangle = Machine([(1, 7, 5, 6, 7, 7, 7, 7), (2, 4, 7, 6, 7, 7, 7, 7), (3, 5, 4, 7, 7, 7, 7, 7)])
    >>> three_numbers(triangle, 0, Counters((1, 1, 1), (2, 2, 2)), most=4000)
    (2, 3, 2)
'''

SECTION_10 = r'''
    >>> from onewitness.counters import Counters
    >>> from onewitness.machines import Machine
    >>> from onewitness.merging import left_showing, merged, without_kinds
    >>> from onewitness.slips import harmless_step, hidden_step, is_hidden, slip_does, slip_holds, slipped
    >>> mixed = Counters((3, 0), (2, 0))
    >>> merged(mixed, [(4, 7), (2, 1), (1, 0)]), without_kinds(mixed, (0,)).rounds, left_showing(mixed, (0,), (4, 7))
    ((4, 8), (1, 0), (0, 7))
    >>> turn, fours, halves = Machine([(1, 2, 3, 0)]), Counters((4,)), Machine([(1, 0)])
    >>> hidden_step(fours, halves, 0), harmless_step(turn, 0, fours, halves, 0), slipped(fours, (3,), (2,))
    (2, 4, (1,))
    >>> [slip_does(turn, 0, fours, halves, (many,)) for many in range(4)], is_hidden(fours, halves, (-2,))
    (['harmless', 'noticed', 'wrong', 'noticed'], True)
    >>> slip_holds(fours, halves, (2,), ("hidden", (), [0, 0])), slip_holds(fours, halves, (2,), ("hidden", (), (0,)))
    (True, False)
'''

SECTION_11 = r'''
    >>> from onewitness.claims import claim_holds, claims_of, numbers_of
    >>> from onewitness.counters import Counters
    >>> from onewitness.desk import Desk
    >>> from onewitness.machines import Machine
    >>> from onewitness.store import Store
    >>> turn, two = Machine([(1, 2, 3, 0)]), Counters([2])
    >>> store = Store(turn, 0, two, 2, witness=Machine([(1, 2, 0)]))
    >>> store.do(0, 0), store.do(1, 0), store.do(1, 0), store.showings, store.whole(), store.value, store.standing
    ((1,), (1,), (0,), ((1,), (0,)), (1,), 1, 0)
    >>> store.told(), store.left(most=100), store.hand_over(0, 1), store.showings, store.told()
    (3, (1, 3), (1,), ((0,), (1,)), 3)
    >>> numbers_of(turn, 0, two, most=500), claims_of(turn, 0, two, most=500)[0]
    ((2, 4, 4), ('values', (0, 0, 1, 1)))
    >>> claim_holds(turn, 0, two, ("rows", [(), (0, 0)])), claim_holds(turn, 0, two, ["beaten", ([(1, 2, 0)], 0, (), (0,) * 6)])
    (True, True)
    >>> desk = Desk(Store(turn, 0, two, 2))
    >>> [desk.say(line) for line in ("do 0 0", "do 1 0", "over 0 1", "whole", "told", "value", "standing", "fold", "do 2 0")]
    ['shows 1', 'shows 1', 'shows 0', 'shows 0', 'state 2', 'value 1', 'standing none', 'fold 2', '?']
'''


class ExamplesTest(unittest.TestCase):

    def run_examples(self, text, name):
        examples = doctest.DocTestParser().get_doctest(text, {}, name, None, 0)
        report = []
        result = doctest.DocTestRunner(verbose=False).run(examples, out=report.append)
        self.assertEqual(result.failed, 0, "".join(report))
        self.assertGreater(result.attempted, 0)

    def test_sections(self):
        sections = {1: SECTION_1, 3: SECTION_3, 4: SECTION_4, 5: SECTION_5, 6: SECTION_6, 7: SECTION_7, 8: SECTION_8,
                    9: SECTION_9, 10: SECTION_10, 11: SECTION_11}
        for number, text in sections.items():
            self.run_examples(text, f"section {number}")

    def test_readme(self):
        with open(README, encoding="utf-8") as file:
            self.run_examples(file.read(), "README.md")


if __name__ == "__main__":
    unittest.main()
