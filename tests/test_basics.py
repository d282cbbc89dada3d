"""Points [1], [2] and [3]: what holds of every function and class of the interface."""

import copy
import inspect
import unittest

from onewitness import (
    boards, cheapest, claims, counters, desk, doings, errors, forgetting, leastones, logs, lots, machines, merging,
    settling, several, slips, splits, store, texts, witnesses,
)
from onewitness.counters import Counters
from onewitness.errors import NoState, Refused, WitnessError
from onewitness.logs import Logs
from onewitness.machines import Machine
from onewitness.store import Store
from tests.helper import FORGETS, HOURS, MIXED, SWAPS, TURN, Promises, any_values, exact

# By module, by name the parameters as the document gives them; those behind "*" by name alone.
INTERFACE = {
    machines: {
        "Machine": "tables", "need_state": "machine state", "need_deed": "machine deed", "check_row": "machine value",
        "led": "machine state row", "reached": "machine first", "forgotten": "machine first",
        "need_exchanges": "machine first",
    },
    counters: {
        "Counters": "rounds rests", "need_fit": "machine counters", "is_finite": "counters",
        "shown_number": "counters kind many", "shown": "counters row", "check_showing": "counters value",
        "shown_on": "counters showing deed", "showings_many": "counters", "all_showings": "counters * most",
    },
    texts: {
        "machine_text": "machine", "read_machine": "text", "row_text": "machine row", "read_row": "machine text",
        "counters_text": "counters", "read_counters": "text", "showing_text": "counters showing",
        "read_showing": "counters text",
    },
    settling: {"settled": "machine first pairs rounds"},
    lots: {
        "lots_of": "machine first counters", "fold_size": "machine first counters",
        "fold_values": "machine first counters", "lot_shown": "machine first counters showing",
        "told_state": "machine first counters showing value", "open_lots": "machine first counters * most",
        "open_lot": "machine first counters showing * most", "needed_values": "machine first counters * most",
        "lot_rows": "machine first counters * most", "rows_hold": "machine first counters value",
        "values_hold": "machine first counters value",
    },
    boards: {
        "board_of": "machine first", "orders_of": "machine first", "needless_kinds": "machine first",
        "plain_rounds": "machine first counters", "tell_alike": "machine first counters others",
        "lot_after": "machine first counters counts", "board_basis": "machine first counters",
        "joint_counters": "machine first counters", "joint_holds": "machine first counters value",
    },
    cheapest: {
        "cheapest_rounds": "machine first fold", "fold_curve": "machine first",
        "kind_worth": "machine first counters kind",
    },
    witnesses: {
        "is_telling": "machine first counters witness start * most",
        "beaten_rows": "machine first counters witness start * most",
        "beaten_holds": "machine first counters witness start value",
        "states_left": "machine first counters witness showing standing start * most",
    },
    leastones: {
        "least_witness": "machine first counters * most", "fewest_standings": "machine first counters * most",
    },
    doings: {
        "doing_of": "machine first counters row", "all_doings": "machine first counters * most",
        "still_doings": "machine first counters * most", "keepers": "machine first counters * most",
        "doing_behind": "machine first counters one other * most", "is_free": "machine first",
    },
    splits: {
        "kept_doings": "machine first counters witness start * most",
        "is_kept_group": "machine first counters value * most",
        "coset_witness": "machine first counters kept * most", "split_paper": "machine first counters * most",
        "split_holds": "machine first counters value * most",
    },
    logs: {
        "Logs": "rounds lots", "unseen_pairs": "logs", "loose_kinds": "logs", "sight_of": "logs row",
        "log_lots": "machine first logs", "log_fold": "machine first logs", "apart_pairs": "machine first",
        "log_rows": "machine first logs", "fewest_pairs": "machine first rounds size",
    },
    several: {
        "check_lookers": "machine value", "standings_of": "machine lookers row",
        "several_tell": "machine first counters lookers * most",
        "several_rows": "machine first counters lookers * most",
        "needless_lookers": "machine first counters lookers * most",
    },
    forgetting: {
        "alone_paper": "machine first counters", "least_alone": "machine first",
        "open_web": "machine first counters * most", "state_colours": "machine first counters * most",
        "fewest_witness": "machine first counters * most", "three_numbers": "machine first counters * most",
    },
    merging: {
        "merged": "counters showings", "without_kinds": "counters kinds", "left_showing": "counters kinds showing",
    },
    slips: {
        "slipped": "counters showing slip", "slip_paper": "counters witness slip start",
        "is_hidden": "counters witness slip start", "slip_holds": "counters witness slip value start",
        "hidden_step": "counters witness kind start", "slip_does": "machine first counters witness slip start",
        "harmless_step": "machine first counters witness kind start",
    },
    store: {"Store": "machine first counters hands * witness start"},
    claims: {
        "claim_holds": "machine first counters value", "claims_of": "machine first counters * most",
        "numbers_of": "machine first counters * most",
    },
    desk: {"Desk": "store"},
    errors: {
        "BadMachine": "at", "BadRow": "at", "BadShowing": "at", "BadText": "at", "Refused": "at", "TooGreat": "most",
        "Forgets": "deed one other", "NoState": "state", "NoDeed": "deed",
    },
}

# By class the methods that it defines itself, with their parameters behind self.
METHODS = {
    store.Store: {"whole": "", "told": "", "do": "hand deed", "hand_over": "one other", "left": "* most"},
    desk.Desk: {"say": "line"},
}

# What may be left out; a start may, but not where a value stands behind it.
DEFAULTS = {"rests": (), "start": 0, "witness": None}
NO_WITNESS = "Store"
NO_DEFAULTS = ("beaten_holds",)
# The searches of which most may be left out.
WITH_MOST = {"several_tell": 4000, "several_rows": 4000, "needless_lookers": 4000}

TWOS = Counters([2, 2])
ON_SWAPS = {"machine": SWAPS, "first": 0, "counters": TWOS}
WITH_SWAPS = {**ON_SWAPS, "witness": SWAPS, "start": 1}
SPLIT = [[[0, 1, 2], [0, 0]], [[0, 2, 1], [0, 1]]]
FLIP = Machine([[1, 0]])
ON_LOGS = {"machine": SWAPS, "first": 0, "logs": Logs([2, 2], [])}
WITH_SLIP = {"counters": TWOS, "witness": SWAPS, "slip": [1, 1], "start": 1}
WITH_LOOKERS = {**ON_SWAPS, "lookers": [[[0, 1], SWAPS, 2], [[1], FLIP, 1]]}

# A right call of each function and class, its arguments in lists where there are sequences.
CALLS = (
    (Machine, {"tables": [[1, 0], [0, 1]]}),
    (machines.need_state, {"machine": SWAPS, "state": 2}),
    (machines.need_deed, {"machine": SWAPS, "deed": 1}),
    (machines.check_row, {"machine": SWAPS, "value": [0, 1, 0]}),
    (machines.led, {"machine": SWAPS, "state": 1, "row": [0, 1, 0]}),
    (machines.reached, {"machine": TURN, "first": 1}),
    (machines.forgotten, {"machine": FORGETS, "first": 1}),
    (machines.need_exchanges, {"machine": SWAPS, "first": 0}),
    (Counters, {"rounds": [2, 0], "rests": [1, 3]}),
    (counters.need_fit, {"machine": SWAPS, "counters": Counters([1, 2])}),
    (counters.is_finite, {"counters": MIXED}),
    (counters.shown_number, {"counters": MIXED, "kind": 2, "many": 9}),
    (counters.shown, {"counters": MIXED, "row": [0, 1, 2, 2]}),
    (counters.check_showing, {"counters": MIXED, "value": [1, 9, 3]}),
    (counters.shown_on, {"counters": MIXED, "showing": [1, 9, 3], "deed": 2}),
    (counters.showings_many, {"counters": Counters([2, 3])}),
    (texts.machine_text, {"machine": SWAPS}),
    (texts.read_machine, {"text": "states 2\n1 0\n0 0"}),
    (texts.row_text, {"machine": SWAPS, "row": [0, 1]}),
    (texts.read_row, {"machine": SWAPS, "text": "0 1"}),
    (texts.counters_text, {"counters": MIXED}),
    (texts.read_counters, {"text": "rounds 2 0\nrests 1 3"}),
    (texts.showing_text, {"counters": MIXED, "showing": [1, 9, 3]}),
    (texts.read_showing, {"counters": MIXED, "text": "1 9 3"}),
    (settling.settled, {"machine": SWAPS, "first": 0, "pairs": [[0, 1], [1, 1]], "rounds": [0, 2]}),
    (lots.lots_of, ON_SWAPS),
    (lots.fold_size, ON_SWAPS),
    (lots.fold_values, ON_SWAPS),
    (lots.lot_shown, {**ON_SWAPS, "showing": [1, 0]}),
    (lots.told_state, {**ON_SWAPS, "showing": [1, 0], "value": 2}),
    (lots.rows_hold, {**ON_SWAPS, "value": [[0, 1, 0, 1], [], [1, 0, 1, 0]]}),
    (lots.values_hold, {**ON_SWAPS, "value": [2, 0, 1]}),
    (boards.board_of, {"machine": SWAPS, "first": 0}),
    (boards.orders_of, {"machine": SWAPS, "first": 0}),
    (boards.needless_kinds, {"machine": SWAPS, "first": 0}),
    (boards.plain_rounds, ON_SWAPS),
    (boards.tell_alike, {**ON_SWAPS, "others": Counters([0, 3])}),
    (boards.lot_after, {**ON_SWAPS, "counts": [-1, 5]}),
    (boards.board_basis, ON_SWAPS),
    (boards.joint_counters, {"machine": HOURS, "first": 0, "counters": TWOS}),
    (boards.joint_holds, {"machine": HOURS, "first": 0, "counters": TWOS, "value": [[[0, 1], 2]]}),
    (cheapest.cheapest_rounds, {"machine": HOURS, "first": 0, "fold": 4}),
    (cheapest.fold_curve, {"machine": HOURS, "first": 0}),
    (cheapest.kind_worth, {"machine": HOURS, "first": 0, "counters": TWOS, "kind": 1}),
    (witnesses.beaten_holds, {**WITH_SWAPS, "value": [[], [0, 0]]}),
    (doings.doing_of, {**ON_SWAPS, "row": [0, 1, 0]}),
    (doings.is_free, {"machine": SWAPS, "first": 0}),
    (Logs, {"rounds": [2, 0], "lots": [[0, 1], [0, 1]]}),
    (logs.unseen_pairs, {"logs": Logs([2, 0, 1], [[0, 1]])}),
    (logs.loose_kinds, {"logs": Logs([2, 0, 1], [[0, 1]])}),
    (logs.sight_of, {"logs": Logs([2, 0, 1], [[0, 1]]), "row": [0, 1, 2, 1]}),
    (logs.log_lots, ON_LOGS),
    (logs.log_fold, ON_LOGS),
    (logs.apart_pairs, {"machine": SWAPS, "first": 0}),
    (logs.log_rows, ON_LOGS),
    (logs.fewest_pairs, {"machine": SWAPS, "first": 0, "rounds": [2, 0], "size": 1}),
    (several.check_lookers, {"machine": SWAPS, "value": WITH_LOOKERS["lookers"]}),
    (several.standings_of, {"machine": SWAPS, "lookers": WITH_LOOKERS["lookers"], "row": [0, 1, 1]}),
    (several.several_rows, {**ON_SWAPS, "lookers": WITH_LOOKERS["lookers"][1:]}),
    (forgetting.alone_paper, ON_SWAPS),
    (forgetting.least_alone, {"machine": HOURS, "first": 0}),
    (merging.merged, {"counters": MIXED, "showings": [[1, 9, 3], [0, 2, 1]]}),
    (merging.without_kinds, {"counters": MIXED, "kinds": [0, 2]}),
    (merging.left_showing, {"counters": MIXED, "kinds": [0, 2], "showing": [1, 9, 3]}),
    (slips.slipped, {"counters": TWOS, "showing": [1, 0], "slip": [-1, 3]}),
    (slips.slip_paper, WITH_SLIP),
    (slips.is_hidden, WITH_SLIP),
    (slips.slip_holds, {"counters": TWOS, "witness": SWAPS, "slip": [1, 1], "value": ["hidden", [], [0, 1]],
                        "start": 0}),
    (slips.hidden_step, {"counters": TWOS, "witness": SWAPS, "kind": 1, "start": 2}),
    (slips.slip_does, {**ON_SWAPS, "witness": SWAPS, "slip": [0, 2], "start": 1}),
    (slips.harmless_step, {"machine": SWAPS, "first": 0, "counters": TWOS, "witness": SWAPS, "kind": 0, "start": 1}),
    (claims.claim_holds, {**ON_SWAPS, "value": ["rows", [[0, 1, 0, 1], [], [1, 0, 1, 0]]]}),
)

# The same for those that have most, which is told by name alone.
SEARCHES = (
    (counters.all_showings, {"counters": Counters([2, 3])}),
    (lots.open_lots, ON_SWAPS),
    (lots.open_lot, {**ON_SWAPS, "showing": [1, 0]}),
    (lots.needed_values, ON_SWAPS),
    (lots.lot_rows, ON_SWAPS),
    (witnesses.is_telling, WITH_SWAPS),
    (witnesses.beaten_rows, {**WITH_SWAPS, "witness": Machine([[1, 0], [1, 0]])}),
    (witnesses.states_left, {**ON_SWAPS, "witness": SWAPS, "showing": [1, 1], "standing": 2, "start": 1}),
    (leastones.least_witness, ON_SWAPS),
    (leastones.fewest_standings, ON_SWAPS),
    (doings.all_doings, ON_SWAPS),
    (doings.still_doings, ON_SWAPS),
    (doings.keepers, ON_SWAPS),
    (doings.doing_behind, {**ON_SWAPS, "one": SPLIT[1], "other": SPLIT[0]}),
    (splits.kept_doings, WITH_SWAPS),
    (splits.is_kept_group, {**ON_SWAPS, "value": [[[0, 1, 2], [0, 0]]]}),
    (splits.coset_witness, {**ON_SWAPS, "kept": SPLIT}),
    (splits.split_paper, ON_SWAPS),
    (splits.split_holds, {**ON_SWAPS, "value": SPLIT}),
    (several.several_tell, WITH_LOOKERS),
    (several.several_rows, WITH_LOOKERS),
    (several.needless_lookers, WITH_LOOKERS),
    (forgetting.open_web, ON_SWAPS),
    (forgetting.state_colours, ON_SWAPS),
    (forgetting.fewest_witness, ON_SWAPS),
    (forgetting.three_numbers, ON_SWAPS),
    (claims.claims_of, ON_SWAPS),
    (claims.numbers_of, ON_SWAPS),
)


def all_calls():
    """Every call of these: the function or class, its arguments, and what is told by name alone."""
    return [(call, named, {}) for call, named in CALLS] + [(call, named, {"most": 900}) for call, named in SEARCHES]


def with_tuples(value):
    """The value with tuples in the place of lists."""
    if isinstance(value, list):
        return tuple(with_tuples(item) for item in value)
    return value


def has_list(value):
    """Whether a list stands somewhere in a result or its attributes."""
    if isinstance(value, (Machine, Counters, Logs)):
        return any(has_list(item) for item in vars(value).values())
    if isinstance(value, tuple):
        return any(has_list(item) for item in value)
    return isinstance(value, list)


def spoil(value):
    """Change a list, and the lists in it."""
    if isinstance(value, list):
        for item in value:
            spoil(item)
        value.reverse()
        value.append(7)


class BasicsTest(Promises):

    def test_names_and_parameters(self):
        for module, told in INTERFACE.items():
            for name, words in told.items():
                thing = getattr(module, name)
                self.assertEqual(thing.__module__, module.__name__)
                self.assertEqual(thing.__name__, name)
                marks = words.split(" ")
                front = marks[:marks.index("*")] if "*" in marks else marks
                behind = marks[len(front) + 1:]
                parameters = inspect.signature(thing).parameters.values()
                self.assertEqual([one.name for one in parameters], front + behind, name)
                for one in parameters:
                    kind = one.KEYWORD_ONLY if one.name in behind else one.POSITIONAL_OR_KEYWORD
                    self.assertEqual(one.kind, kind, name)
                    wanted = one.empty if name in NO_DEFAULTS else DEFAULTS.get(one.name, one.empty)
                    if one.name == "witness" and name != NO_WITNESS:
                        wanted = one.empty
                    if one.name == "most":
                        wanted = WITH_MOST.get(name, one.empty)
                    self.assertEqual(one.default, wanted, name)
        self.assertTrue(issubclass(WitnessError, ValueError))

    def test_methods_stand_in_their_own_class(self):
        for owner, told in METHODS.items():
            for name, words in told.items():
                method = vars(owner)[name]
                self.assertEqual(inspect.getsourcefile(method), inspect.getsourcefile(owner))
                marks = words.split(" ") if words else []
                front = [mark for mark in marks if mark != "*"]
                parameters = list(inspect.signature(method).parameters.values())[1:]
                self.assertEqual([one.name for one in parameters], front)
                for one in parameters:
                    kind = one.KEYWORD_ONLY if "*" in marks else one.POSITIONAL_OR_KEYWORD
                    self.assertEqual((one.kind, one.default), (kind, one.empty))

    def test_all_that_the_interface_lists_is_told_here(self):
        # As the document lists it, file by file.
        listed = """
            errors WitnessError BadMachine BadRow BadShowing BadText Refused TooGreat Forgets NoState NoDeed
            machines Machine need_state need_deed check_row led reached forgotten need_exchanges
            counters Counters need_fit is_finite shown_number shown check_showing shown_on showings_many all_showings
            texts machine_text read_machine row_text read_row counters_text read_counters showing_text read_showing
            settling settled
            lots lots_of fold_size fold_values lot_shown told_state open_lots open_lot needed_values lot_rows rows_hold
            lots values_hold
            boards board_of orders_of needless_kinds plain_rounds tell_alike lot_after board_basis joint_counters
            boards joint_holds
            cheapest cheapest_rounds fold_curve kind_worth
            witnesses is_telling beaten_rows beaten_holds states_left
            leastones least_witness fewest_standings
            doings doing_of all_doings still_doings keepers doing_behind is_free
            splits kept_doings is_kept_group coset_witness split_paper split_holds
            logs Logs unseen_pairs loose_kinds sight_of log_lots log_fold apart_pairs log_rows fewest_pairs
            several check_lookers standings_of several_tell several_rows needless_lookers
            forgetting alone_paper least_alone open_web state_colours fewest_witness three_numbers
            merging merged without_kinds left_showing
            slips slipped slip_paper is_hidden slip_holds hidden_step slip_does harmless_step
            store Store
            claims claim_holds claims_of numbers_of
            desk Desk
        """
        by_name = {module.__name__.split(".")[1]: module for module in INTERFACE}
        told = set()
        for line in listed.strip().split("\n"):
            name, *things = line.split()
            for thing in things:
                told.add((name, thing))
                self.assertIs(vars(by_name[name])[thing].__module__, by_name[name].__name__)
                if thing != "WitnessError":
                    self.assertIn(thing, INTERFACE[by_name[name]])
        self.assertEqual(len(told), 1 + sum(len(things) for things in INTERFACE.values()))

    def test_all_functions_are_called_here(self):
        called = {call.__name__ for call, named, only in all_calls()}
        for module, told in INTERFACE.items():
            if module not in (errors, store, desk):
                self.assertLessEqual(set(told), called)

    def test_arguments_by_position_and_by_name_in_lists_and_in_tuples(self):
        for call, named, only in all_calls():
            by_position = call(*named.values(), **only)
            self.assertFalse(has_list(by_position), call)
            self.same(call(**named, **only), by_position)
            backwards = {name: named[name] for name in reversed(list(named))}
            self.same(call(**only, **backwards), by_position)
            self.same(call(*[with_tuples(value) for value in named.values()], **only), by_position)

    def test_most_is_passed_by_name_alone(self):
        for call, named in SEARCHES:
            with self.assertRaises(TypeError):
                call(*named.values(), 900)
            if call.__name__ not in WITH_MOST:
                with self.assertRaises(TypeError):
                    call(*named.values())

    def test_no_arguments_are_changed_nor_kept(self):
        for call, named, only in all_calls():
            before = exact(list(named.values()))
            given = copy.deepcopy(list(named.values()))
            result = call(*given, **only)
            self.assertEqual(exact(given), before, call)
            wanted = exact(result)
            for value in given:
                spoil(value)
            self.assertEqual(exact(result), wanted, call)

    def test_equal_calls_give_equal_results_whatever_was_called_in_between(self):
        first = [exact(call(**copy.deepcopy(named), **only)) for call, named, only in all_calls()]
        for call, named, only in reversed(all_calls()):
            call(**copy.deepcopy(named), **only)
        self.assertEqual([exact(call(**copy.deepcopy(named), **only)) for call, named, only in all_calls()], first)

    def test_a_bool_is_never_taken_for_an_equal_integer(self):
        for right, wrong in ((0, False), (1, True)):
            self.same(machines.need_state(SWAPS, right), right)
            self.refuses(NoState, {"state": wrong}, machines.need_state, SWAPS, wrong)
            self.same(machines.need_state(SWAPS, right), right)
            self.same(Counters([right]).rounds, (right,))
            self.refuses(Refused, {"at": [wrong]}, Counters, [wrong])
            self.refuses(Refused, {"at": [wrong]}, Counters, [2], [wrong])
            self.refuses(Refused, {"at": wrong}, counters.shown_number, MIXED, 0, wrong)

    def test_any_value_raises_only_what_is_described(self):
        described = (
            (Machine, errors.BadMachine, ()),
            (machines.need_state, NoState, (SWAPS,)), (machines.need_deed, errors.NoDeed, (SWAPS,)),
            (machines.check_row, errors.BadRow, (SWAPS,)), (machines.led, errors.BadRow, (SWAPS, 0)),
            (machines.reached, NoState, (SWAPS,)), (machines.forgotten, NoState, (SWAPS,)),
            (machines.need_exchanges, NoState, (SWAPS,)),
            (Counters, Refused, ()), (Counters, Refused, ([2, 2],)),
            (counters.shown_number, Refused, (MIXED, 0)), (counters.shown, errors.BadRow, (MIXED,)),
            (counters.check_showing, errors.BadShowing, (MIXED,)),
            (counters.shown_on, errors.NoDeed, (MIXED, (0, 0, 0))),
            (texts.row_text, errors.BadRow, (SWAPS,)), (texts.showing_text, errors.BadShowing, (MIXED,)),
            (texts.read_machine, errors.BadText, ()), (texts.read_counters, errors.BadText, ()),
            (texts.read_row, errors.BadText, (SWAPS,)), (texts.read_showing, errors.BadText, (MIXED,)),
            (lots.lot_shown, errors.BadShowing, (SWAPS, 0, TWOS)), (lots.told_state, Refused, (SWAPS, 0, TWOS, (0, 0))),
            (boards.lot_after, Refused, (SWAPS, 0, TWOS)), (cheapest.cheapest_rounds, Refused, (HOURS, 0)),
            (cheapest.kind_worth, errors.NoDeed, (HOURS, 0, TWOS)), (doings.doing_of, errors.BadRow, (SWAPS, 0, TWOS)),
            (boards.board_of, NoState, (SWAPS,)), (cheapest.fold_curve, NoState, (SWAPS,)),
            (doings.is_free, NoState, (SWAPS,)), (boards.orders_of, NoState, (TURN,)),
            (Logs, Refused, ([2, 2],)), (logs.sight_of, errors.BadRow, (ON_LOGS["logs"],)),
            (logs.apart_pairs, NoState, (SWAPS,)), (logs.fewest_pairs, Refused, (SWAPS, 0, (2, 2))),
            (several.check_lookers, Refused, (SWAPS,)),
            (several.standings_of, errors.BadRow, (SWAPS, [])), (several.several_tell, Refused, (SWAPS, 0, TWOS)),
            (several.several_rows, Refused, (SWAPS, 0, TWOS)), (several.needless_lookers, Refused, (SWAPS, 0, TWOS)),
            (forgetting.least_alone, NoState, (SWAPS,)), (merging.without_kinds, Refused, (MIXED,)),
            (merging.left_showing, errors.BadShowing, (MIXED, (0,))), (slips.slipped, Refused, (TWOS, (0, 1))),
            (slips.is_hidden, Refused, (TWOS, SWAPS)), (slips.slip_paper, Refused, (TWOS, SWAPS)),
            (slips.hidden_step, Refused, (TWOS, SWAPS)), (slips.slip_does, Refused, (SWAPS, 0, TWOS, SWAPS)),
            (slips.harmless_step, Refused, (SWAPS, 0, TWOS, SWAPS)), (Store, Refused, (SWAPS, 0, TWOS)),
        )
        for call, error_class, ahead in described:
            taken = 0
            for value in any_values():
                try:
                    call(*ahead, value)
                    taken += 1
                except error_class as error:
                    self.assertIs(type(error), error_class)
            self.assertLess(taken, len(any_values()))

    def test_values_are_left_as_they_are(self):
        for call in (Machine, Counters, lambda value: machines.check_row(SWAPS, value),
                     lambda value: counters.check_showing(MIXED, value)):
            for value, twin in zip(any_values(), any_values()):
                if isinstance(value, (list, tuple)) and not any(isinstance(item, KeyError) for item in value):
                    try:
                        call(value)
                    except WitnessError:
                        pass
                    self.assertEqual(exact(value), exact(twin))

    def test_the_error_told_first_is_raised_of_two_wrong_arguments(self):
        for error_class, call, args in (
            (NoState, machines.led, (SWAPS, 3, [5])),
            (errors.NoDeed, counters.shown_number, (MIXED, 3, -1)),
            (errors.BadShowing, counters.shown_on, (MIXED, (2, 0, 0), 3)),
            (errors.NoDeed, counters.shown_on, (MIXED, (1, 0, 0), 3)),
            (errors.BadRow, machines.led, (SWAPS, 2, [5])),
        ):
            with self.assertRaises(error_class):
                call(*args)
        with self.assertRaises(Refused):
            counters.all_showings(Counters([60, 60, 60, 0]), most=1)


if __name__ == "__main__":
    unittest.main()
