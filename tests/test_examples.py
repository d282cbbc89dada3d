"""The examples of the document, as they stand in it, and those of README.md."""

import doctest
import os
import unittest

README = os.path.join(os.path.dirname(os.path.dirname(os.path.abspath(__file__))), "README.md")

SECTION_3 = r'''
    >>> from onewitness.counters import Counters, all_showings, shown, shown_number, shown_on, showings_many
    >>> from onewitness.machines import Machine, forgotten, led, reached
    >>> from onewitness.texts import counters_text, read_showing
    >>> turn = Machine([(1, 2, 0, 3), (1, 0, 2, 3)])
    >>> led(turn, 0, (0, 1, 0)), reached(turn, 2), forgotten(turn, 0), forgotten(Machine([(1, 1, 2), (2, 2, 2)]), 0)
    (1, (0, 1, 2), None, (0, 0, 1))
    >>> counters = Counters([2, 0, 3], [0, 0, 1])
    >>> shown(counters, (0, 1, 0, 2, 0, 2, 1)), shown_on(counters, (1, 2, 3), 2), [shown_number(counters, 2, many) for many in range(6)]
    ((1, 2, 2), (1, 2, 1), [0, 1, 2, 3, 1, 2])
    >>> showings_many(Counters((2, 1), (0, 2))), all_showings(Counters((2, 1)), most=9), counters_text(counters).split("\n")
    (6, ((0, 0), (1, 0)), ['rounds 2 0 3', 'rests 0 0 1'])
    >>> read_showing(counters, "1 40 3")
    (1, 40, 3)
'''


class ExamplesTest(unittest.TestCase):

    def run_examples(self, text, name):
        examples = doctest.DocTestParser().get_doctest(text, {}, name, None, 0)
        report = []
        result = doctest.DocTestRunner(verbose=False).run(examples, out=report.append)
        self.assertEqual(result.failed, 0, "".join(report))
        self.assertGreater(result.attempted, 0)

    def test_section_3(self):
        self.run_examples(SECTION_3, "section 3")

    def test_readme(self):
        with open(README, encoding="utf-8") as file:
            self.run_examples(file.read(), "README.md")


if __name__ == "__main__":
    unittest.main()
