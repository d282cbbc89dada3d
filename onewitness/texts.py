"""Texts of machines, counters, rows and showings, and how they are read."""

from onewitness.basics import DEEDS_MOST, ROW_MOST, STATES_MOST, is_sequence
from onewitness.counters import REST_MOST, ROUND_MOST, Counters, check_showing
from onewitness.errors import BadShowing, BadText
from onewitness.machines import Machine, check_row

# Python refuses to write or read numbers of some thousand digits at once, and a
# kind that is counted in full may show one: these are taken in pieces of so many digits.
PIECE = 600
PIECE_WORTH = (10 ** 60) ** 10


def _number_text(number):
    """Return a number of any size in digits."""
    pieces = []
    while number >= PIECE_WORTH:
        number, low = divmod(number, PIECE_WORTH)
        pieces.append(str(low).zfill(PIECE))
    pieces.append(str(number))
    return "".join(reversed(pieces))


def _numbers_text(numbers):
    """Return numbers in one line."""
    return " ".join([_number_text(number) for number in numbers])


def machine_text(machine):
    """Return the text of a machine: how many states, then a line for each deed."""
    lines = ["states " + _number_text(machine.states)]
    for table in machine.tables:
        lines.append(_numbers_text(table))
    return "\n".join(lines)


def counters_text(counters):
    """Return the text of counters: a line of the rounds, and one of the rests."""
    return "rounds " + _numbers_text(counters.rounds) + "\nrests " + _numbers_text(counters.rests)


def row_text(machine, row):
    """Return the text of a row, one line."""
    done = check_row(machine, row)
    return _numbers_text(done) if done else "-"


def showing_text(counters, showing):
    """Return the text of a showing, one line."""
    return _numbers_text(check_showing(counters, showing))


def _need_text(text):
    """Return the text; BadText(0) for any value that is no string."""
    if not isinstance(text, str):
        raise BadText(0)
    return text


def read_below(words, limit):
    """Return the numbers that words tell, up to the first one that tells none below the limit."""
    right = [str(number) for number in range(limit)]
    numbers = []
    for word in words:
        if word not in right:
            return numbers
        numbers.append(right.index(word))
    return numbers


def _read_line(line, name, limit):
    """Return the numbers below the limit behind a name; none at all if the line is not so."""
    words = line.split(" ")
    numbers = read_below(words[1:], limit)
    if words[0] != name or len(numbers) < len(words) - 1:
        return []
    return numbers


def _read_states(line):
    """Return how many states a machine's first line tells; BadText if it is not so."""
    numbers = _read_line(line, "states", STATES_MOST + 1)
    if len(numbers) != 1 or numbers[0] == 0:
        raise BadText(1)
    return numbers[0]


def read_machine(text):
    """Return the machine that a text tells; BadText with the first wrong line."""
    lines = _need_text(text).split("\n")
    states = _read_states(lines[0])
    tables = []
    for line in lines[1:DEEDS_MOST + 1]:
        words = line.split(" ")
        table = read_below(words, states)
        if len(words) != states or len(table) != states:
            raise BadText(len(tables) + 2)
        tables.append(table)
    # A text without tables lacks its second line, one with five has a line too many.
    if len(tables) == 0 or len(tables) < len(lines) - 1:
        raise BadText(len(tables) + 2)
    return Machine(tables)


def read_counters(text):
    """Return the counters that a text tells; BadText with the first wrong line."""
    lines = _need_text(text).split("\n")
    rounds = _read_line(lines[0], "rounds", ROUND_MOST + 1)
    if not is_sequence(rounds, 1, DEEDS_MOST):
        raise BadText(1)
    if len(lines) < 2:
        raise BadText(2)
    rests = _read_line(lines[1], "rests", REST_MOST + 1)
    if len(rests) != len(rounds):
        raise BadText(2)
    if len(lines) > 2:
        raise BadText(3)
    return Counters(rounds, rests)


def read_row(machine, text):
    """Return the row that a text tells; BadText with the index of the first wrong word."""
    if _need_text(text) == "-":
        return ()
    words = text.split(" ")
    row = read_below(words[:ROW_MOST], machine.deeds)
    if len(row) < len(words):
        raise BadText(len(row))
    return tuple(row)


def _read_number(word):
    """Return the number of any size that a word tells, None if it tells none."""
    if word == "" or word.strip("0123456789") != "":
        return None
    if word[0] == "0" and word != "0":
        return None
    head = len(word) % PIECE
    number = int("0" + word[:head])
    for at in range(head, len(word), PIECE):
        number = number * PIECE_WORTH + int(word[at:at + PIECE])
    return number


def read_showing(counters, text):
    """Return the showing that a text tells; BadText(1) if it tells none."""
    words = _need_text(text).split(" ")
    try:
        return check_showing(counters, [_read_number(word) for word in words])
    except BadShowing:
        raise BadText(1) from None
