"""What the tests share: strict comparison, told errors, and any values."""

import unittest

from onewitness.counters import Counters
from onewitness.errors import BadRow, NoState
from onewitness.machines import Machine

SWAPS = Machine([(1, 0, 2), (0, 2, 1)])
TURN = Machine([(1, 2, 0, 3), (1, 0, 2, 3)])
FORGETS = Machine([(1, 1, 2), (2, 2, 2)])
MIXED = Counters([2, 0, 3], [0, 0, 1])


def exact(value):
    """The value with the classes of all that is in it, so that True is not 1 and a list no tuple."""
    if isinstance(value, (list, tuple)):
        return (type(value).__name__, [exact(item) for item in value])
    if isinstance(value, (Machine, Counters)):
        return (type(value).__name__, [(name, exact(vars(value)[name])) for name in sorted(vars(value))])
    return (type(value).__name__, value)


def nested(depth, wrap):
    """An empty list or tuple, nested so deep."""
    value = wrap()
    for _ in range(depth - 1):
        value = wrap([value])
    return value


def any_values():
    """Values of every kind that the document knows, new ones at each call."""
    return [
        None, True, False, 0, 1, 2, 3, 4, 5, 7, 8, 60, 61, -1, -2, 10 ** 30, -10 ** 30, 10 ** 5000, -10 ** 5000,
        "", " ", "-", "0", "1", "01", "0 1", "(0, 1)", "states 1\n0", "rounds 1\nrests 0", "\n", "\ud800", "\u0663",
        (), [], (0,), [0], (0, 1), [0, 1], (1, 0, 2), [1, 0, 2], [True], (False,), (0, True), ["0"], ("",), [None],
        [-1], (10 ** 5000,), [0, 10 ** 30], (0, -10 ** 30), (2, 0), [61], (60, 6), [7], (1, 2, 3, 4), [0] * 5,
        ((0,),), [[0]], ([0],), [(0,)], [(), ()], ((1, 0, 2), [0, 2, 1]), [[0, 1], [True, 0]], [[0], [0], [0], [0]],
        [[0]] * 5, [[]], (None, (0,)), [[0, 1], None], [(0,) * 9], [[1, 0], [0]], [(8,) * 8], [(7,) * 8],
        nested(40, list), nested(40, tuple), [0, nested(39, tuple)], (nested(39, list), 0),
        SWAPS, MIXED, Counters([2]), [SWAPS], (MIXED,), NoState([1]), BadRow(0), [NoState(None)],
        (0,) * 400, [0] * 401, [0] * 399 + [True], (0,) * 399 + (9,), [1] * 401,
    ]


class Promises(unittest.TestCase):
    """A test case that compares strictly."""

    maxDiff = None

    def same(self, result, wanted, note=None):
        self.assertEqual(exact(result), exact(wanted), note)

    def refuses(self, error_class, told, call, *args, **named):
        """Check that the call raises this very error, and that it keeps what is told."""
        with self.assertRaises(error_class) as caught:
            call(*args, **named)
        self.assertIs(type(caught.exception), error_class)
        self.assertEqual(sorted(vars(caught.exception)), sorted(told))
        for name in told:
            kept = vars(caught.exception)[name]
            self.assertTrue(kept is told[name] or exact(kept) == exact(told[name]), name)

    def keeps(self, error_class, name, value, call, *args, **named):
        """Check that the call raises an error that keeps this very value."""
        with self.assertRaises(error_class) as caught:
            call(*args, **named)
        self.assertIs(type(caught.exception), error_class)
        self.assertIs(vars(caught.exception)[name], value)

    def answers(self, call, value, wanted):
        """Check a call with any value against (error class, at) or a wanted result."""
        if isinstance(wanted, tuple) and len(wanted) == 2 and isinstance(wanted[0], type):
            self.refuses(wanted[0], {"at": wanted[1]}, call, value)
        else:
            self.same(call(value), wanted)
