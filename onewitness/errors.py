"""The errors of the package, each with what it was made of.

None of them puts what it was passed into a message: that may be any thing, also
a number too long for Python to write.
"""


class WitnessError(ValueError):
    """The base of the errors that tell what is wrong with an argument."""


class BadMachine(WitnessError):
    """These are no tables of a machine: -1, or the index of the first wrong one."""

    def __init__(self, at):
        self.at = at


class BadRow(WitnessError):
    """This is no row: -1, or the index of the first item that is no deed."""

    def __init__(self, at):
        self.at = at


class BadShowing(WitnessError):
    """This is no showing: -1, or the first kind whose item is none."""

    def __init__(self, at):
        self.at = at


class BadText(WitnessError):
    """This text cannot be read: 0 for no string, or where it is wrong."""

    def __init__(self, at):
        self.at = at


class Refused(WitnessError):
    """This argument is not what is asked for."""

    def __init__(self, at):
        self.at = at


class TooGreat(WitnessError):
    """There are more things than were allowed."""

    def __init__(self, most):
        self.most = most


class Forgets(WitnessError):
    """This deed leads two unlike states that come to one state."""

    def __init__(self, deed, one, other):
        self.deed = deed
        self.one = one
        self.other = other


class NoState(KeyError):
    """This is no state of the machine."""

    def __init__(self, state):
        self.state = state


class NoDeed(KeyError):
    """This is no deed of the machine, or no kind of the counters."""

    def __init__(self, deed):
        self.deed = deed
