"""Cheapest counters: which rounds leave how few states open, and what a kind is worth."""

from onewitness.basics import is_number
from onewitness.boards import orders_of
from onewitness.counters import Counters
from onewitness.errors import Refused
from onewitness.lots import fold_size
from onewitness.machines import need_deed


def kind_worth(machine, first, counters, kind):
    """Return how many times as great the fold is if the kind's round is 1 instead."""
    fold = fold_size(machine, first, counters)
    need_deed(machine, kind)
    rounds = counters.rounds[:kind] + (1,) + counters.rounds[kind + 1:]
    return fold_size(machine, first, Counters(rounds)) // fold


def _all_rounds(machine, first):
    """Return all rounds that divide the orders, ascending as (product, rounds).

    Others tell no more than the plain rounds, and cost more.
    """
    found = [(1, ())]
    for order in orders_of(machine, first):
        turns = [turn for turn in range(1, order + 1) if order % turn == 0]
        found = [(cost * turn, rounds + (turn,)) for cost, rounds in found for turn in turns]
    return sorted(found)


def cheapest_rounds(machine, first, fold):
    """Return the rounds of the least product with which the fold is at most this, None if there are none."""
    found = _all_rounds(machine, first)
    if not is_number(fold) or fold == 0:
        raise Refused(fold)
    for cost, rounds in found:
        if fold_size(machine, first, Counters(rounds)) <= fold:
            return rounds
    return None


def fold_curve(machine, first):
    """Return ascending (product, fold) for all products of rounds with which a fold is less than with lesser ones."""
    folds = {}
    for cost, rounds in _all_rounds(machine, first):
        fold = fold_size(machine, first, Counters(rounds))
        folds[cost] = min(fold, folds.get(cost, fold))
    curve = []
    for cost in sorted(folds):
        if not curve or folds[cost] < curve[-1][1]:
            curve.append((cost, folds[cost]))
    return tuple(curve)
