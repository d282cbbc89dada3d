"""Machines: states, deeds that lead them to states, and rows of deeds."""

from onewitness.basics import DEEDS_MOST, STATES_MOST, ended, first_not_below, is_below, is_sequence, row_of
from onewitness.errors import BadMachine, Forgets, NoDeed, NoState, Refused


class Machine:
    """A machine, told by its tables: by deed, by state the next state."""

    def __init__(self, tables):
        if not is_sequence(tables, 1, DEEDS_MOST):
            raise BadMachine(-1)
        for at, table in enumerate(tables):
            if not _is_table(table, tables[0]):
                raise BadMachine(at)
        self.deeds = len(tables)
        self.states = len(tables[0])
        self.tables = tuple([tuple(table) for table in tables])

    def __eq__(self, other):
        return isinstance(other, Machine) and self.tables == other.tables


def _is_table(value, like):
    """Tell whether any value is a table of as many states as another one."""
    if not is_sequence(value, 1, STATES_MOST):
        return False
    return len(value) == len(like) and first_not_below(value, len(value)) is None


def need_state(machine, state):
    """Return the state; NoState for any other value."""
    if not is_below(state, machine.states):
        raise NoState(state)
    return state


def need_deed(machine, deed):
    """Return the deed; NoDeed for any other value."""
    if not is_below(deed, machine.deeds):
        raise NoDeed(deed)
    return deed


def check_row(machine, value):
    """Return a row as a tuple; BadRow for any other value."""
    return row_of(value, machine.deeds)


def led(machine, state, row):
    """Return the state to which the row leads this one."""
    need_state(machine, state)
    return ended(machine.tables, state, check_row(machine, row))


def in_coming_order(machine, first):
    """Return the states that come from the first one, in the order of the first row to each."""
    found = [need_state(machine, first)]
    at = 0
    while at < len(found):
        for table in machine.tables:
            state = table[found[at]]
            if state not in found:
                found.append(state)
        at += 1
    return tuple(found)


def from_first(machine, first):
    """Return the tables of the states that come alone, numbered in the order of the first row to each."""
    come = in_coming_order(machine, first)
    return tuple([tuple([come.index(table[state]) for state in come]) for table in machine.tables])


def reached(machine, first):
    """Return the states that come from the first one, ascending."""
    return tuple(sorted(in_coming_order(machine, first)))


def forgotten(machine, first):
    """Return the least (deed, one, other) that the deed leads to one state, or None."""
    come = reached(machine, first)
    for deed, table in enumerate(machine.tables):
        for one in come:
            for other in come:
                if one < other and table[one] == table[other]:
                    return (deed, one, other)
    return None


def need_exchanges(machine, first):
    """Return the machine; Forgets if it forgets from the first state."""
    found = forgotten(machine, first)
    if found is not None:
        deed, one, other = found
        raise Forgets(deed, one, other)
    return machine


def need_witness(deeds, witness, start):
    """Return the witness; Refused for another number of deeds, NoState for a start that is none of its standings."""
    if witness.deeds != deeds:
        raise Refused(witness)
    need_state(witness, start)
    return witness


def need_exchanging_witness(deeds, witness, start):
    """Return the witness; also Refused if it forgets from the start."""
    need_witness(deeds, witness, start)
    if forgotten(witness, start) is not None:
        raise Refused(witness)
    return witness
