"""Points [5] and [6]: machines, and rows of deeds."""

import unittest
from itertools import product

from onewitness.counters import Counters
from onewitness.errors import BadMachine, BadRow, Forgets, NoDeed, NoState
from onewitness.machines import Machine, check_row, forgotten, led, need_deed, need_exchanges, need_state, reached
from tests.helper import FORGETS, SWAPS, TURN, Promises, any_values


def is_number_below(value, limit):
    return type(value) is int and 0 <= value < limit


def machine_fault(value):
    """The index that BadMachine must tell of any value, None for tables of a machine."""
    if type(value) not in (list, tuple) or len(value) not in (1, 2, 3, 4):
        return -1
    for at, table in enumerate(value):
        if type(table) not in (list, tuple) or len(table) not in (1, 2, 3, 4, 5, 6, 7, 8):
            return at
        if len(table) != len(value[0]) or not all(is_number_below(item, len(table)) for item in table):
            return at
    return None


def row_fault(value, deeds):
    """The index that BadRow must tell of any value, None for a row."""
    if type(value) not in (list, tuple) or len(value) > 400:
        return -1
    for at, item in enumerate(value):
        if not is_number_below(item, deeds):
            return at
    return None


def small_machines():
    """All machines of up to three states and one deed, and of two states and two or three deeds."""
    for states, deeds in ((1, 1), (2, 1), (3, 1), (1, 4), (2, 2), (2, 3)):
        tables = list(product(range(states), repeat=states))
        for rows in product(tables, repeat=deeds):
            yield Machine(rows)


def some_machines():
    """Small machines, and some of more states."""
    yield from small_machines()
    for one, other in product(list(product(range(3), repeat=3))[::2], repeat=2):
        yield Machine((one, other))
    for seed in range(200):
        states = 4 + seed % 5
        yield Machine([[(seed * (state + 3) * (deed + 5) // 7 + state * state) % states for state in range(states)]
                       for deed in range(1 + seed % 4)])


def come_by_rows(machine, first):
    """The states to which rows lead, found by trying longer and longer rows."""
    come = {first}
    for _ in range(machine.states):
        come = come | {table[state] for table in machine.tables for state in come}
    return tuple(sorted(come))


class MachineTest(Promises):

    def test_attributes(self):
        self.same([TURN.deeds, TURN.states, TURN.tables], [2, 4, ((1, 2, 0, 3), (1, 0, 2, 3))])
        self.same(Machine([[0]]).tables, ((0,),))
        self.same([Machine([[0]]).deeds, Machine([[0]]).states], [1, 1])
        eight = [[7] * 8, (0, 1, 2, 3, 4, 5, 6, 7), [1] * 8, (0,) * 8]
        greatest = Machine(eight)
        self.same([greatest.deeds, greatest.states], [4, 8])
        self.same(greatest.tables, ((7,) * 8, (0, 1, 2, 3, 4, 5, 6, 7), (1,) * 8, (0,) * 8))
        self.same(Machine(tables=((1, 0),)).tables, ((1, 0),))

    def test_lists_and_tuples_are_taken_and_not_kept(self):
        tables = [[1, 0], (0, 1)]
        machine = Machine(tables)
        self.assertEqual(tables, [[1, 0], (0, 1)])
        tables[0][0] = 9
        tables.append(None)
        self.same(machine.tables, ((1, 0), (0, 1)))
        self.same([machine.deeds, machine.states], [2, 2])

    def test_no_sequence_of_1_to_4_items(self):
        for value in (None, 5, True, "", "0", (), [], [[0]] * 5, ((0,),) * 5, {0: [0]}, SWAPS, [7] * 5):
            self.refuses(BadMachine, {"at": -1}, Machine, value)

    def test_first_bad_table(self):
        for tables, at in (
            ([()], 0), ([[0] * 9], 0), ([[0], [0, 0]], 1), ([[0, 1], [0, 1, 1]], 1), ([[0, 1], [0]], 1),
            ([[0, 2]], 0), ([[0, -1]], 0), ([[0, True]], 0), ([[False]], 0), ([["0"]], 0), ([[None]], 0),
            ([[0], None], 1), ([[0], 0], 1), ([[0], "0"], 1), ([[0], [()]], 1), (["0", [0]], 0), ([0, 1], 0),
            ([[0], [0], [0], [1]], 3), ([[0, 1], [1, 0], [1, 2], [5]], 2), ([[0] * 8, [0] * 9], 1),
            ([[8] * 8], 0), ([[0] * 9, [0] * 9], 0), ([[2, 0], [0, 1, 2]], 0), ([[0], []], 1), ([True], 0),
            ([[0, 1], [0, 10 ** 5000]], 1), ([(0, 1), (0.0, 1)], 1), ([[0], {0: 0}], 1),
        ):
            self.refuses(BadMachine, {"at": at}, Machine, tables)

    def test_any_value(self):
        for value in any_values():
            fault = machine_fault(value)
            if fault is None:
                self.same(Machine(value).tables, tuple(tuple(table) for table in value))
            else:
                self.refuses(BadMachine, {"at": fault}, Machine, value)

    def test_all_small_tables(self):
        items = (0, 1, 2, True, None)
        rows = [row for many in range(3) for row in product(items, repeat=many)]
        for tables in product(rows, repeat=2):
            fault = machine_fault(tables)
            if fault is None:
                self.same(Machine(tables).tables, tables)
            else:
                self.refuses(BadMachine, {"at": fault}, Machine, list(tables))

    def test_equality(self):
        self.assertTrue(Machine([[1, 0]]) == Machine(((1, 0),)))
        self.assertFalse(Machine([[1, 0]]) != Machine(((1, 0),)))
        for other in (Machine([[0, 1]]), Machine([[1, 0], [1, 0]]), Machine([[0]]), Counters([1, 0]), None, 1, "",
                      ((1, 0),), [[1, 0]]):
            self.assertFalse(Machine([[1, 0]]) == other)
            self.assertTrue(Machine([[1, 0]]) != other)
            self.assertIs(Machine([[1, 0]]) == other, False)
        self.assertIs(Machine([[1, 0]]) == Machine([[1, 0]]), True)
        unlike = list(small_machines())
        for one, other in product(unlike, repeat=2):
            self.assertIs(one == other, one is other)


class NeedTest(Promises):

    def test_states_and_deeds(self):
        for machine in (TURN, SWAPS, Machine([[0]]), Machine([[0] * 8] * 4)):
            for state in range(machine.states):
                self.same(need_state(machine, state), state)
            for deed in range(machine.deeds):
                self.same(need_deed(machine, deed), deed)
        self.same([need_state(machine=TURN, state=3), need_deed(machine=TURN, deed=1)], [3, 1])

    def test_any_value(self):
        for machine in (TURN, SWAPS, Machine([[0]])):
            for value in any_values():
                if is_number_below(value, machine.states):
                    self.same(need_state(machine, value), value)
                else:
                    self.keeps(NoState, "state", value, need_state, machine, value)
                    self.keeps(NoState, "state", value, led, machine, value, None)
                    self.keeps(NoState, "state", value, reached, machine, value)
                    self.keeps(NoState, "state", value, forgotten, machine, value)
                    self.keeps(NoState, "state", value, need_exchanges, machine, value)
                if is_number_below(value, machine.deeds):
                    self.same(need_deed(machine, value), value)
                else:
                    self.keeps(NoDeed, "deed", value, need_deed, machine, value)

    def test_edges(self):
        for value in (4, -1, True, False, "0", None, (0,)):
            self.refuses(NoState, {"state": value}, need_state, TURN, value)
        for value in (2, -1, True, False, "1", None, [1]):
            self.refuses(NoDeed, {"deed": value}, need_deed, TURN, value)


class RowTest(Promises):

    def test_rows(self):
        self.same(check_row(TURN, []), ())
        self.same(check_row(TURN, ()), ())
        self.same(check_row(TURN, [0, 1, 1]), (0, 1, 1))
        self.same(check_row(machine=TURN, value=(1,)), (1,))
        self.same(check_row(TURN, [1] * 400), (1,) * 400)
        self.same(check_row(TURN, (0,) * 400), (0,) * 400)

    def test_a_list_is_neither_changed_nor_kept(self):
        row = [0, 1]
        checked = check_row(TURN, row)
        self.assertEqual(row, [0, 1])
        row[0] = 7
        self.same(checked, (0, 1))

    def test_bad_rows(self):
        for value, at in (
            (None, -1), (0, -1), ("", -1), ("01", -1), ({}, -1), ([0] * 401, -1), ((9,) * 401, -1), (TURN, -1),
            ([2], 0), ([0, -1], 1), ([0, 0, True], 2), ([False], 0), ([0, "1"], 1), ([[0]], 0), ([0, None, 9], 1),
            ([0] * 399 + [2], 399), ([3] + [0] * 399, 0), ((0, 1, 10 ** 5000), 2),
        ):
            self.refuses(BadRow, {"at": at}, check_row, TURN, value)
            self.refuses(BadRow, {"at": at}, led, TURN, 0, value)

    def test_any_value(self):
        for machine in (TURN, Machine([[0]]), Machine([[0]] * 4)):
            for value in any_values():
                fault = row_fault(value, machine.deeds)
                if fault is None:
                    self.same(check_row(machine, value), tuple(value))
                    self.same(led(machine, 0, value), led(machine, 0, tuple(value)))
                else:
                    self.refuses(BadRow, {"at": fault}, check_row, machine, value)
                    self.refuses(BadRow, {"at": fault}, led, machine, 0, value)

    def test_led(self):
        self.same(led(TURN, 0, (0, 1, 0)), 1)
        self.same(led(TURN, 2, []), 2)
        self.same(led(machine=TURN, state=2, row=[0]), 0)
        self.same(led(Machine([[1, 2, 3, 4, 5, 6, 7, 0]]), 3, [0] * 400), 3)
        self.same(led(Machine([[1, 2, 3, 4, 5, 6, 7, 0]]), 3, [0] * 399), 2)

    def test_led_one_deed_behind_another(self):
        for machine in small_machines():
            for many in range(4):
                for row in product(range(machine.deeds), repeat=many):
                    for state in range(machine.states):
                        at = state
                        for deed in row:
                            at = machine.tables[deed][at]
                        self.same(led(machine, state, row), at)

    def test_the_state_is_looked_at_first(self):
        self.refuses(NoState, {"state": 4}, led, TURN, 4, [9])
        self.refuses(NoState, {"state": True}, led, TURN, True, None)


class ComesTest(Promises):

    def test_reached(self):
        self.same(reached(TURN, 2), (0, 1, 2))
        self.same(reached(TURN, 3), (3,))
        self.same(reached(machine=TURN, first=0), (0, 1, 2))
        self.same(reached(FORGETS, 0), (0, 1, 2))
        self.same(reached(FORGETS, 1), (1, 2))
        self.same(reached(FORGETS, 2), (2,))
        self.same(reached(Machine([[1, 2, 3, 4, 5, 6, 7, 0]]), 5), (0, 1, 2, 3, 4, 5, 6, 7))
        self.same(reached(Machine([[6, 7, 0, 1, 2, 3, 4, 5], [0, 1, 2, 3, 4, 5, 6, 7]]), 4), (0, 2, 4, 6))

    def test_forgotten(self):
        self.same(forgotten(TURN, 0), None)
        self.same(forgotten(FORGETS, 0), (0, 0, 1))
        self.same(forgotten(machine=FORGETS, first=1), (1, 1, 2))
        self.same(forgotten(FORGETS, 2), None)

    def test_states_that_do_not_come_do_not_count(self):
        only_behind = Machine([[1, 0, 0, 2]])
        self.same(forgotten(only_behind, 0), None)
        self.same(forgotten(only_behind, 1), None)
        self.same(forgotten(only_behind, 2), (0, 1, 2))
        self.same(forgotten(only_behind, 3), (0, 1, 2))
        self.assertIs(need_exchanges(only_behind, 0), only_behind)
        self.refuses(Forgets, {"deed": 0, "one": 1, "other": 2}, need_exchanges, only_behind, 3)

    def test_the_least_is_told(self):
        several = Machine([[1, 2, 3, 0], [0, 3, 3, 3], [0, 0, 0, 0]])
        self.same(forgotten(several, 0), (1, 1, 2))
        self.same(forgotten(Machine([[1, 2, 3, 3], [0, 0, 0, 0]]), 0), (0, 2, 3))
        self.same(forgotten(Machine([[1, 2, 3, 0], [1, 0, 0, 1]]), 2), (1, 0, 3))

    def test_against_a_count_of_all_pairs(self):
        for machine in some_machines():
            for first in range(machine.states):
                come = come_by_rows(machine, first)
                self.same(reached(machine, first), come)
                pairs = [(deed, one, other) for deed in range(machine.deeds) for one in come for other in come
                         if one < other and machine.tables[deed][one] == machine.tables[deed][other]]
                if pairs:
                    deed, one, other = min(pairs)
                    self.same(forgotten(machine, first), (deed, one, other))
                    self.refuses(Forgets, {"deed": deed, "one": one, "other": other}, need_exchanges, machine, first)
                else:
                    self.same(forgotten(machine, first), None)
                    self.assertIs(need_exchanges(machine, first), machine)

    def test_by_names(self):
        self.assertIs(need_exchanges(machine=SWAPS, first=1), SWAPS)


if __name__ == "__main__":
    unittest.main()
