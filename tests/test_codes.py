import itertools
import unittest

from tests.test_ballots import all_slips
from tests.things import anything_but_numbers
from wholepoll.codes import code_of, line_of
from wholepoll.errors import NoBallot

MOST = 10 ** 9


class CodeOf(unittest.TestCase):
    """[5.1]"""

    def test_examples(self):
        self.assertEqual(code_of(((2, 1), 5), 2), 872)
        self.assertEqual(code_of(((), 3), 2), 507)
        self.assertEqual(code_of(((1,), 1), 1), 14)

    def test_unlike_lines_have_unlike_codes(self):
        lines = [(slip, number) for slip in all_slips(3) for number in (1, 2, 13, MOST)]
        self.assertEqual(len({code_of(line, 3) for line in lines}), len(lines))


class LineOf(unittest.TestCase):
    """[5.2]"""

    def test_there_and_back(self):
        for hands in range(1, 13):
            ones = tuple(2 ** hand for hand in range(hands))
            for slip in ((), ones, ones[::-1], (2 ** hands - 1,), (2 ** (hands - 1),)):
                for number in (1, 12, 13, 170, MOST):
                    line = (slip, number)
                    self.assertEqual(line_of(code_of(line, hands), hands), line)
        for slip in all_slips(4):
            self.assertEqual(line_of(code_of((slip, 7), 4), 4), (slip, 7))

    def test_each_small_number(self):
        codes = {code_of((slip, number), 2): (slip, number) for slip in all_slips(2) for number in range(1, 6)}
        for code in range(-5, 6 * 169):
            if code in codes:
                self.assertEqual(line_of(code, 2), codes[code])
            else:
                with self.assertRaises(NoBallot):
                    line_of(code, 2)

    def test_no_number_of_ballots(self):
        for code in (0, 1, 12, -1, -14, -872, (MOST + 1) * 13, 10 ** 60):
            with self.assertRaises(NoBallot):
                line_of(code, 1)
        self.assertEqual(line_of(13, 1), ((), 1))
        self.assertEqual(line_of(MOST * 13 + 1, 1), ((1,), MOST))

    def test_ranks_with_gaps(self):
        for ranks in itertools.product(range(13), repeat=2):
            code = (3 * 13 + ranks[0]) * 13 + ranks[1]
            if ranks in ((0, 0), (0, 1), (1, 0), (1, 1), (1, 2), (2, 1)):
                self.assertEqual(code_of(line_of(code, 2), 2), code)
            else:
                with self.assertRaises(NoBallot):
                    line_of(code, 2)

    def test_other_kinds(self):
        for thing in anything_but_numbers():
            with self.assertRaises(NoBallot):
                line_of(thing, 1)
