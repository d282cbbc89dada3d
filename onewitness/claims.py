"""Claims of how few values and standings are enough, with papers that show them."""

from onewitness.basics import is_below, is_sequence
from onewitness.errors import BadMachine
from onewitness.leastones import fewest_standings, least_witness
from onewitness.lots import fold_size, fold_values, lot_rows, lots_of, rows_hold, values_hold
from onewitness.machines import Machine, reached
from onewitness.together import with_witness
from onewitness.witnesses import beaten_holds


def claim_holds(machine, first, counters, value):
    """Tell whether any value is a word and a paper that shows what the word claims."""
    # The errors of the machine and the counters come first, whatever the value is.
    lots_of(machine, first, counters)
    if not is_sequence(value, 2, 2):
        return False
    word, paper = value
    if word == "values":
        return values_hold(machine, first, counters, paper)
    if word == "rows":
        return rows_hold(machine, first, counters, paper)
    if word == "witness":
        return _witness_holds(machine, first, counters, paper)
    return word == "beaten" and _beaten_holds(machine, first, counters, paper)


def _witness_of(machine, tables):
    """Return the witness of which any value tells the tables, None if it tells none."""
    try:
        witness = Machine(tables)
    except BadMachine:
        return None
    return witness if witness.deeds == machine.deeds else None


def _witness_holds(machine, first, counters, paper):
    """Tell whether any value is the tables of a witness that exchanges together with the machine, and tells."""
    witness = _witness_of(machine, paper)
    if witness is None:
        return False
    both = with_witness(machine, first, witness, 0)
    return both.exchange() and both.tells(counters)


def _beaten_holds(machine, first, counters, paper):
    """Tell whether any value is a witness's tables, its start, and two rows that beat it."""
    if not is_sequence(paper, 4, 4):
        return False
    tables, start, one, other = paper
    witness = _witness_of(machine, tables)
    if witness is None or not is_below(start, witness.states):
        return False
    return beaten_holds(machine, first, counters, witness, start, (one, other))


def claims_of(machine, first, counters, *, most):
    """Return the claims of enough values, of no fewer, and of a witness with as few standings as can be."""
    values = fold_values(machine, first, counters)
    rows = lot_rows(machine, first, counters, most=most)
    tables = least_witness(machine, first, counters, most=most)
    return ("values", values), ("rows", rows), ("witness", tables)


def numbers_of(machine, first, counters, *, most):
    """Return the fold's size, the fewest standings, and how many states come."""
    fold = fold_size(machine, first, counters)
    return fold, fewest_standings(machine, first, counters, most=most), len(reached(machine, first))
