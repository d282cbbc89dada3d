"""Points [1], [2] and [3]: what holds of every function and class of the interface."""

import copy
import inspect
import unittest

from onewitness import counters, errors, machines, texts
from onewitness.counters import Counters
from onewitness.errors import NoState, Refused, WitnessError
from onewitness.machines import Machine
from tests.helper import FORGETS, MIXED, SWAPS, TURN, Promises, any_values, exact

# By module, by name the parameters as the document gives them; those behind "*" by name alone.
INTERFACE = {
    machines: {
        "Machine": "tables", "need_state": "machine state", "need_deed": "machine deed", "check_row": "machine value",
        "led": "machine state row", "reached": "machine first", "forgotten": "machine first",
        "need_exchanges": "machine first",
    },
    counters: {
        "Counters": "rounds rests", "need_fit": "machine counters", "is_finite": "counters",
        "shown_number": "counters kind many", "shown": "counters row", "check_showing": "counters value",
        "shown_on": "counters showing deed", "showings_many": "counters", "all_showings": "counters * most",
    },
    texts: {
        "machine_text": "machine", "read_machine": "text", "row_text": "machine row", "read_row": "machine text",
        "counters_text": "counters", "read_counters": "text", "showing_text": "counters showing",
        "read_showing": "counters text",
    },
    errors: {
        "BadMachine": "at", "BadRow": "at", "BadShowing": "at", "BadText": "at", "Refused": "at", "TooGreat": "most",
        "Forgets": "deed one other", "NoState": "state", "NoDeed": "deed",
    },
}

# A right call of each function and class, its arguments in lists where there are sequences.
CALLS = (
    (Machine, {"tables": [[1, 0], [0, 1]]}),
    (machines.need_state, {"machine": SWAPS, "state": 2}),
    (machines.need_deed, {"machine": SWAPS, "deed": 1}),
    (machines.check_row, {"machine": SWAPS, "value": [0, 1, 0]}),
    (machines.led, {"machine": SWAPS, "state": 1, "row": [0, 1, 0]}),
    (machines.reached, {"machine": TURN, "first": 1}),
    (machines.forgotten, {"machine": FORGETS, "first": 1}),
    (machines.need_exchanges, {"machine": SWAPS, "first": 0}),
    (Counters, {"rounds": [2, 0], "rests": [1, 3]}),
    (counters.need_fit, {"machine": SWAPS, "counters": Counters([1, 2])}),
    (counters.is_finite, {"counters": MIXED}),
    (counters.shown_number, {"counters": MIXED, "kind": 2, "many": 9}),
    (counters.shown, {"counters": MIXED, "row": [0, 1, 2, 2]}),
    (counters.check_showing, {"counters": MIXED, "value": [1, 9, 3]}),
    (counters.shown_on, {"counters": MIXED, "showing": [1, 9, 3], "deed": 2}),
    (counters.showings_many, {"counters": Counters([2, 3])}),
    (texts.machine_text, {"machine": SWAPS}),
    (texts.read_machine, {"text": "states 2\n1 0\n0 0"}),
    (texts.row_text, {"machine": SWAPS, "row": [0, 1]}),
    (texts.read_row, {"machine": SWAPS, "text": "0 1"}),
    (texts.counters_text, {"counters": MIXED}),
    (texts.read_counters, {"text": "rounds 2 0\nrests 1 3"}),
    (texts.showing_text, {"counters": MIXED, "showing": [1, 9, 3]}),
    (texts.read_showing, {"counters": MIXED, "text": "1 9 3"}),
)


def with_tuples(value):
    """The value with tuples in the place of lists."""
    if isinstance(value, list):
        return tuple(with_tuples(item) for item in value)
    return value


def has_list(value):
    """Whether a list stands somewhere in a result or its attributes."""
    if isinstance(value, (Machine, Counters)):
        return any(has_list(item) for item in vars(value).values())
    if isinstance(value, tuple):
        return any(has_list(item) for item in value)
    return isinstance(value, list)


class BasicsTest(Promises):

    def test_names_and_parameters(self):
        for module, told in INTERFACE.items():
            for name, words in told.items():
                thing = getattr(module, name)
                self.assertEqual(thing.__module__, module.__name__)
                self.assertEqual(thing.__name__, name)
                marks = words.split(" ")
                front = marks[:marks.index("*")] if "*" in marks else marks
                behind = marks[len(front) + 1:]
                parameters = inspect.signature(thing).parameters.values()
                self.assertEqual([one.name for one in parameters], front + behind, name)
                for one in parameters:
                    kind = one.KEYWORD_ONLY if one.name in behind else one.POSITIONAL_OR_KEYWORD
                    self.assertEqual(one.kind, kind, name)
                    self.assertEqual(one.default, () if one.name == "rests" else one.empty, name)
        self.assertTrue(issubclass(WitnessError, ValueError))

    def test_arguments_by_position_and_by_name_in_lists_and_in_tuples(self):
        for call, named in CALLS:
            by_position = call(*named.values())
            self.assertFalse(has_list(by_position), call)
            self.same(call(**named), by_position)
            backwards = {name: named[name] for name in reversed(list(named))}
            self.same(call(**backwards), by_position)
            self.same(call(*[with_tuples(value) for value in named.values()]), by_position)
        self.same(counters.all_showings(most=9, counters=Counters([2, 3])),
                  counters.all_showings(Counters([2, 3]), most=9))
        self.assertFalse(has_list(counters.all_showings(Counters([2, 3]), most=9)))

    def test_no_arguments_are_changed_nor_kept(self):
        for call, named in CALLS:
            before = exact(list(named.values()))
            given = copy.deepcopy(list(named.values()))
            result = call(*given)
            self.assertEqual(exact(given), before, call)
            wanted = exact(result)
            for value in given:
                if isinstance(value, list):
                    for item in value:
                        if isinstance(item, list):
                            item.append(5)
                    value.reverse()
                    value.append(7)
            self.assertEqual(exact(result), wanted, call)

    def test_equal_calls_give_equal_results_whatever_was_called_in_between(self):
        first = [exact(call(*copy.deepcopy(list(named.values())))) for call, named in CALLS]
        for call, named in reversed(CALLS):
            call(**copy.deepcopy(named))
        self.assertEqual([exact(call(*copy.deepcopy(list(named.values())))) for call, named in CALLS], first)

    def test_a_bool_is_never_taken_for_an_equal_integer(self):
        for right, wrong in ((0, False), (1, True)):
            self.same(machines.need_state(SWAPS, right), right)
            self.refuses(NoState, {"state": wrong}, machines.need_state, SWAPS, wrong)
            self.same(machines.need_state(SWAPS, right), right)
            self.same(Counters([right]).rounds, (right,))
            self.refuses(Refused, {"at": [wrong]}, Counters, [wrong])
            self.refuses(Refused, {"at": [wrong]}, Counters, [2], [wrong])
            self.refuses(Refused, {"at": wrong}, counters.shown_number, MIXED, 0, wrong)

    def test_any_value_raises_only_what_is_described(self):
        described = (
            (Machine, errors.BadMachine, ()),
            (machines.need_state, NoState, (SWAPS,)), (machines.need_deed, errors.NoDeed, (SWAPS,)),
            (machines.check_row, errors.BadRow, (SWAPS,)), (machines.led, errors.BadRow, (SWAPS, 0)),
            (machines.reached, NoState, (SWAPS,)), (machines.forgotten, NoState, (SWAPS,)),
            (machines.need_exchanges, NoState, (SWAPS,)),
            (Counters, Refused, ()), (Counters, Refused, ([2, 2],)),
            (counters.shown_number, Refused, (MIXED, 0)), (counters.shown, errors.BadRow, (MIXED,)),
            (counters.check_showing, errors.BadShowing, (MIXED,)),
            (counters.shown_on, errors.NoDeed, (MIXED, (0, 0, 0))),
            (texts.row_text, errors.BadRow, (SWAPS,)), (texts.showing_text, errors.BadShowing, (MIXED,)),
            (texts.read_machine, errors.BadText, ()), (texts.read_counters, errors.BadText, ()),
            (texts.read_row, errors.BadText, (SWAPS,)), (texts.read_showing, errors.BadText, (MIXED,)),
        )
        for call, error_class, ahead in described:
            taken = 0
            for value in any_values():
                try:
                    call(*ahead, value)
                    taken += 1
                except error_class as error:
                    self.assertIs(type(error), error_class)
            self.assertLess(taken, len(any_values()))

    def test_values_are_left_as_they_are(self):
        for call in (Machine, Counters, lambda value: machines.check_row(SWAPS, value),
                     lambda value: counters.check_showing(MIXED, value)):
            for value, twin in zip(any_values(), any_values()):
                if isinstance(value, (list, tuple)) and not any(isinstance(item, KeyError) for item in value):
                    try:
                        call(value)
                    except WitnessError:
                        pass
                    self.assertEqual(exact(value), exact(twin))

    def test_the_error_told_first_is_raised_of_two_wrong_arguments(self):
        for error_class, call, args in (
            (NoState, machines.led, (SWAPS, 3, [5])),
            (errors.NoDeed, counters.shown_number, (MIXED, 3, -1)),
            (errors.BadShowing, counters.shown_on, (MIXED, (2, 0, 0), 3)),
            (errors.NoDeed, counters.shown_on, (MIXED, (1, 0, 0), 3)),
            (errors.BadRow, machines.led, (SWAPS, 2, [5])),
        ):
            with self.assertRaises(error_class):
                call(*args)
        with self.assertRaises(Refused):
            counters.all_showings(Counters([60, 60, 60, 0]), most=1)


if __name__ == "__main__":
    unittest.main()
