"""Point [10]: texts."""

import unittest
from itertools import product

from onewitness.counters import Counters
from onewitness.errors import BadRow, BadShowing, BadText
from onewitness.machines import Machine
from onewitness.texts import (
    counters_text, machine_text, read_counters, read_machine, read_row, read_showing, row_text, showing_text,
)
from tests.helper import FORGETS, MIXED, SWAPS, TURN, Promises, any_values
from tests.test_counters import some_counters
from tests.test_machines import some_machines

# Characters that Python takes for digits, or for a number, and the document does not.
ODD_DIGITS = ("\u0661", "\uff11", "\u00b9", "\u2460", "\u00bd", "\u4e00")
BENT = ("", "00", "01", "+1", "-0", "-1", "1_0", "0x0", "1.0", "a", "1a", "a1", "1x1", "--", "0,", ",0",
        "\t0", "0\t", "1\r", "0\u00a0", "\u00a00", "True", "None", "1e0", "\x0b1", "\u20281",
        "9" * 5000, "0" * 5000) + ODD_DIGITS


class TextsTest(Promises):
    """Texts as told, read back to equal things."""

    def test_machines(self):
        self.same(machine_text(Machine([[1, 2, 0], (0, 0, 1)])), "states 3\n1 2 0\n0 0 1")
        self.same(machine_text(machine=Machine([[0]])), "states 1\n0")
        self.same(machine_text(Machine([(7, 0, 1, 2, 3, 4, 5, 6)] * 4)), "states 8" + "\n7 0 1 2 3 4 5 6" * 4)
        self.same(read_machine(text="states 2\n1 0"), Machine([(1, 0)]))
        for machine in some_machines():
            self.same(read_machine(machine_text(machine)), machine)

    def test_counters(self):
        self.same(counters_text(MIXED), "rounds 2 0 3\nrests 0 0 1")
        self.same(counters_text(counters=Counters([60])), "rounds 60\nrests 0")
        self.same(counters_text(Counters((0, 1, 10, 59), (6, 5, 0, 1))), "rounds 0 1 10 59\nrests 6 5 0 1")
        self.same(read_counters(text="rounds 60 0\nrests 6 0"), Counters((60, 0), (6, 0)))
        for counters in some_counters():
            self.same(read_counters(counters_text(counters)), counters)

    def test_rows(self):
        self.same(row_text(TURN, ()), "-")
        self.same(row_text(TURN, []), "-")
        self.same(row_text(machine=TURN, row=[0, 1, 1]), "0 1 1")
        self.same(row_text(TURN, (1,)), "1")
        self.same(read_row(TURN, "-"), ())
        self.same(read_row(machine=TURN, text="0 1 1"), (0, 1, 1))
        self.same(read_row(Machine([[0]] * 4), "3"), (3,))
        for many in range(5):
            for row in product(range(2), repeat=many):
                self.same(read_row(TURN, row_text(TURN, row)), row)
        self.same(read_row(TURN, row_text(TURN, [1] * 400)), (1,) * 400)

    def test_showings(self):
        self.same(showing_text(MIXED, [1, 40, 3]), "1 40 3")
        self.same(showing_text(counters=Counters([2]), showing=(0,)), "0")
        self.same(read_showing(MIXED, "1 40 3"), (1, 40, 3))
        self.same(read_showing(counters=Counters([0]), text="0"), (0,))
        self.same(read_showing(Counters([60], [6]), "65"), (65,))
        for showing in product(range(2), (0, 9, 10, 99, 10 ** 18, 10 ** 30 + 7), range(4)):
            self.same(read_showing(MIXED, showing_text(MIXED, showing)), showing)

    def test_showings_of_great_numbers(self):
        full = Counters([0, 2])
        for digits in (1, 59, 60, 61, 599, 600, 601, 1199, 1200, 1201, 4299, 4300, 4301, 9000):
            self.same(showing_text(full, (10 ** digits, 1)), "1" + "0" * digits + " 1")
            self.same(read_showing(full, "1" + "0" * digits + " 1"), (10 ** digits, 1))
            self.same(showing_text(full, (10 ** digits - 1, 0)), "9" * digits + " 0")
            self.same(read_showing(full, "9" * digits + " 0"), (10 ** digits - 1, 0))
            self.same(read_showing(full, showing_text(full, (10 ** digits // 7, 0))), (10 ** digits // 7, 0))
        self.same(read_showing(full, "1234567890" * 200 + " 0"), (1234567890 * (10 ** 2000 - 1) // (10 ** 10 - 1), 0))

    def test_texts_of_what_is_none(self):
        for value, at in ((None, -1), ([0] * 401, -1), ([0, 2], 1), ([True], 0), ("0", -1)):
            self.refuses(BadRow, {"at": at}, row_text, TURN, value)
        for value, at in ((None, -1), ([0, 0], -1), ((2, 0, 0), 0), ((0, False, 0), 1), ((0, 0, 4), 2), ("1 0 3", -1)):
            self.refuses(BadShowing, {"at": at}, showing_text, MIXED, value)

    def test_no_string(self):
        for value in any_values():
            if not isinstance(value, str):
                self.refuses(BadText, {"at": 0}, read_machine, value)
                self.refuses(BadText, {"at": 0}, read_counters, value)
                self.refuses(BadText, {"at": 0}, read_row, TURN, value)
                self.refuses(BadText, {"at": 0}, read_showing, MIXED, value)

    def test_any_string(self):
        for value in ("", " ", "\n", "states 1\n0", "rounds 1\nrests 0", "0", "-", "\ud800", "\u0663"):
            for call in (read_machine, read_counters, lambda text: read_row(TURN, text),
                         lambda text: read_showing(MIXED, text)):
                try:
                    call(value)
                except BadText:
                    pass


class MachineTextTest(Promises):

    def bad(self, text, at):
        self.refuses(BadText, {"at": at}, read_machine, text)

    def test_first_line(self):
        for line in ("", "states", "states ", "states  3", " states 3", "states 3 ", "states 0", "states 9",
                     "states 03", "states 3 3", "state 3", "States 3", "states3", "3", "1 2 0", "states\t3",
                     "states 3\r", "rounds 3"):
            self.bad(line + "\n1 2 0", 1)
            self.bad(line, 1)
            self.bad(line + "\n9\n9", 1)
        for word in BENT:
            self.bad("states " + word + "\n0", 1)
        self.bad("\nstates 1\n0", 1)

    def test_lines_of_deeds(self):
        right = ["states 3", "1 2 0", "0 0 0", "2 2 2", "0 1 2"]
        wrong = ["", " ", "1 2", "1 2 0 0", "1  2 0", " 1 2 0", "1 2 0 ", "1 2 3", "1 2 -1", "-", "states 3", "1,2,0",
                 "1\t2 0", "012", "1 2 0\r", "1 2  "] + ["1 " + word + " 0" for word in BENT]
        for line in wrong:
            for at in range(1, 5):
                lines = right[:at] + [line] + right[at + 1:]
                self.bad("\n".join(lines), at + 1)
                self.bad("\n".join(lines[:at + 1]), at + 1)
                self.bad("\n".join(lines + ["0 0 0", "0 0 0"]), at + 1)
        for line in wrong:
            self.bad("\n".join(right + [line]), 6)

    def test_a_line_lacks_or_is_one_too_many(self):
        self.bad("states 3", 2)
        self.bad("states 1", 2)
        self.bad("states 1\n", 2)
        self.bad("states 1" + "\n0" * 5, 6)
        self.bad("states 1" + "\n0" * 9, 6)
        self.bad("states 1" + "\n0" * 4 + "\n", 6)
        for many in (1, 2, 3):
            self.bad("states 1" + "\n0" * many + "\n", many + 2)
            self.same(read_machine("states 1" + "\n0" * many), Machine([[0]] * many))
        self.same(read_machine("states 1" + "\n0" * 4), Machine([[0]] * 4))

    def test_only_line_feeds_part_lines(self):
        for mark in ("\r\n", "\r", "\x0b", "\x0c", "\u2028", "\x85"):
            self.bad("states 1" + mark + "0", 1)
            self.bad("states 1\n0" + mark + "0", 2)

    def test_limits(self):
        for states in range(1, 9):
            table = tuple(range(states))
            line = " ".join(str(state) for state in table)
            self.same(read_machine("states " + str(states) + "\n" + line), Machine([table]))
            self.bad("states " + str(states) + "\n" + line[:-1] + str(states), 2)
        self.bad("states 9\n0 1 2 3 4 5 6 7 8", 1)


class CountersTextTest(Promises):

    def bad(self, text, at):
        self.refuses(BadText, {"at": at}, read_counters, text)

    def test_first_line(self):
        for line in ("", "rounds", "rounds ", "rounds  2", " rounds 2", "rounds 2 ", "rounds 61", "rounds 2 61",
                     "round 2", "Rounds 2", "rests 2", "2", "rounds 1 1 1 1 1", "rounds 2  2", "rounds\t2", "rounds -",
                     "states 2"):
            self.bad(line + "\nrests 0", 1)
            self.bad(line, 1)
            self.bad(line + "\nx\nx", 1)
        for word in BENT:
            self.bad("rounds " + word + "\nrests 0", 1)
            self.bad("rounds 2 " + word + "\nrests 0 0", 1)

    def test_second_line(self):
        for line in ("", "rests", "rests ", "rests 0", "rests 0 0 0", "rests  0 0", " rests 0 0", "rests 0 0 ",
                     "rests 7 0", "rests 0 7", "rest 0 0", "rounds 0 0", "0 0", "rests 0  0", "rests -", "rests 0\t0"):
            self.bad("rounds 2 3\n" + line, 2)
            self.bad("rounds 2 3\n" + line + "\n", 2)
            self.bad("rounds 2 3\n" + line + "\nrests 0 0", 2)
        for word in BENT:
            self.bad("rounds 2\nrests " + word, 2)
            self.bad("rounds 2 0\nrests 0 " + word, 2)

    def test_a_line_lacks_or_is_one_too_many(self):
        self.bad("rounds 2", 2)
        self.bad("rounds 2\n", 2)
        self.bad("rounds 2\nrests 0\n", 3)
        self.bad("rounds 2\nrests 0\nrests 0", 3)
        self.bad("rounds 2\nrests 0\n\n\n", 3)

    def test_only_line_feeds_part_lines(self):
        for mark in ("\r\n", "\r", "\x0b", "\u2028"):
            self.bad("rounds 2" + mark + "rests 0", 1)
            self.bad("rounds 2\nrests 0" + mark, 2)

    def test_limits(self):
        for turn in range(61):
            self.same(read_counters("rounds " + str(turn) + "\nrests 0"), Counters([turn]))
        for rest in range(7):
            self.same(read_counters("rounds 2\nrests " + str(rest)), Counters([2], [rest]))
        for many in range(1, 5):
            text = "rounds" + " 1" * many + "\nrests" + " 2" * many
            self.same(read_counters(text), Counters([1] * many, [2] * many))
        self.bad("rounds" + " 1" * 5 + "\nrests" + " 2" * 5, 1)
        for turn in (61, 100, 600):
            self.bad("rounds " + str(turn) + "\nrests 0", 1)
        for rest in (7, 10, 60):
            self.bad("rounds 2\nrests " + str(rest), 2)


class RowTextTest(Promises):

    def bad(self, text, at, machine=TURN):
        self.refuses(BadText, {"at": at}, read_row, machine, text)

    def test_first_bad_word(self):
        for text, at in (
            ("", 0), (" ", 0), (" 0", 0), ("0 ", 1), ("0  1", 1), ("0 1 ", 2), ("2", 0), ("0 2", 1), ("0 1 -", 2),
            ("- 0", 0), ("--", 0), ("- ", 0), (" -", 0), ("-\n", 0), ("0\n", 0), ("0 1\n", 1), ("0\n1", 0), ("0,1", 0),
            ("1 1 1 9 9", 3), ("0 1 1  ", 3), ("(0, 1)", 0), ("0\t1", 0), ("\n", 0),
        ):
            self.bad(text, at)
        for word in BENT:
            self.bad(word, 0)
            self.bad("0 1 " + word, 2)
            self.bad("0 " + word + " 9", 1)

    def test_deeds_of_the_machine(self):
        for deeds in range(1, 5):
            machine = Machine([[0]] * deeds)
            for deed in range(6):
                if deed < deeds:
                    self.same(read_row(machine, "0 " + str(deed)), (0, deed))
                else:
                    self.bad("0 " + str(deed), 1, machine)

    def test_the_400th_and_the_401st_word(self):
        self.same(read_row(TURN, " ".join(["1"] * 400)), (1,) * 400)
        self.bad(" ".join(["1"] * 401), 400)
        self.bad(" ".join(["1"] * 400) + " ", 400)
        self.bad(" ".join(["1"] * 400 + ["9"]), 400)
        self.bad(" ".join(["1"] * 399 + ["2"]), 399)
        self.bad(" ".join(["1"] * 399 + ["2", "1"]), 399)
        self.bad(" ".join(["1"] * 399) + " ", 399)
        self.bad(" ".join(["1"] * 3000), 400)
        self.bad(" ".join(["2"] + ["1"] * 3000), 0)


class ShowingTextTest(Promises):

    def bad(self, text, counters=MIXED):
        self.refuses(BadText, {"at": 1}, read_showing, counters, text)

    def test_wrong_texts(self):
        for text in ("", " ", "-", "1", "1 40", "1 40 3 0", " 1 40 3", "1 40 3 ", "1  40 3", "1 40 3\n", "\n1 40 3",
                     "1\n40\n3", "2 40 3", "1 40 4", "1 -1 3", "1,40,3", "1\t40 3", "1 40 3\r", "(1, 40, 3)",
                     "1 4_0 3"):
            self.bad(text)
        for word in BENT:
            for at in (0, 2):
                words = ["1", "1", "1"]
                words[at] = word
                self.bad(" ".join(words))
            if word != "9" * 5000:
                self.bad("1 " + word + " 1")
                self.bad(word, Counters([0]))

    def test_limits(self):
        for turn, rest in product((1, 2, 10, 60), (0, 1, 6)):
            counters = Counters([turn], [rest])
            self.same(read_showing(counters, str(turn + rest - 1)), (turn + rest - 1,))
            self.bad(str(turn + rest), counters)
        for machine_like in (SWAPS, FORGETS):
            self.bad(machine_text(machine_like))


if __name__ == "__main__":
    unittest.main()
