import random
import unittest

from tests.draws import any_sheet, is_told_anew
from wholepoll.sheets import ballots_in, changed, number_of
from wholepoll.shifts import free_for, shift

SHEET = [((), 4), ((1,), 5), ((1, 2), 2), ((2,), 3), ((2, 1), 6), ((3,), 1), ((4, 1), 7), ((6, 1), 8)]
# Of x = 0 and y = 1: first those with 0 alone in the first tier, then those whose first tier lacks 1, then the rest.
ORDER = [((1,), 5), ((1, 2), 2), ((), 4), ((4, 1), 7), ((2,), 3), ((2, 1), 6), ((3,), 1), ((6, 1), 8)]


def plain_shift(sheet, x, y, slip, many):
    """[7.1] Ballot by ballot."""
    others = [line for line in sheet if line[0] != slip]
    first = [line for line in others if line[0][:1] == (1 << x,)]
    second = [line for line in others if line not in first and not (line[0] and line[0][0] >> y & 1)]
    rest = [line for line in others if line not in first and line not in second]
    ballots = [old for old, number in first + second + rest for _ in range(number)][:many]
    return [(old, slip, ballots.count(old)) for old in dict.fromkeys(ballots)]


class FreeFor(unittest.TestCase):
    """[7.1]"""

    def test_free_for(self):
        self.assertEqual(free_for(SHEET, (2, 4)), 36)
        self.assertEqual(free_for(SHEET, (2, 1)), 30)
        self.assertEqual(free_for(SHEET, ()), 32)
        self.assertEqual(free_for([], (2,)), 0)
        self.assertEqual(free_for([((2,), 5)], (2,)), 0)
        self.assertEqual(free_for([((1,), 10 ** 12), ((2,), 1)], (2,)), 10 ** 12)


class Shift(unittest.TestCase):
    """[7.1]"""

    def test_the_order_in_which_ballots_are_taken(self):
        self.assertEqual(shift(SHEET, 0, 1, (2, 4), 36), [(old, (2, 4), number) for old, number in ORDER])
        self.assertEqual(shift(SHEET, 0, 1, (2, 4), 35)[-1], ((6, 1), (2, 4), 7))
        self.assertEqual(shift(SHEET, 0, 1, (2, 4), 0), [])
        self.assertEqual(shift(SHEET, 0, 1, (2, 4), 1), [((1,), (2, 4), 1)])
        self.assertEqual(shift(SHEET, 0, 1, (2, 4), 5), [((1,), (2, 4), 5)])
        self.assertEqual(shift(SHEET, 0, 1, (2, 4), 6), [((1,), (2, 4), 5), ((1, 2), (2, 4), 1)])

    def test_a_slip_that_stands_in_the_sheet(self):
        due = [(old, (2, 1), number) for old, number in ORDER if old != (2, 1)]
        self.assertEqual(shift(SHEET, 0, 1, (2, 1), 30), due)
        self.assertEqual(shift(SHEET, 0, 1, (2, 1), 29)[-1], ((6, 1), (2, 1), 7))
        self.assertEqual(shift(SHEET, 0, 1, (6, 1), 28)[-1], ((3,), (6, 1), 1))

    def test_no_ballots_to_be_taken(self):
        self.assertEqual(shift([], 0, 1, (2,), 0), [])
        self.assertEqual(shift([((2,), 9)], 0, 1, (2,), 0), [])

    def test_numbers_above_the_bound_of_a_line(self):
        sheet = [((1,), 10 ** 12 - 7), ((4,), 7)]
        told = shift(sheet, 2, 1, (2,), 10 ** 12 - 1)
        self.assertEqual(told, [((4,), (2,), 7), ((1,), (2,), 10 ** 12 - 8)])

    def test_drawn(self):
        draw = random.Random(71)
        for _ in range(200):
            hands = draw.choice((2, 3, 4, 12))
            sheet = any_sheet(draw, hands)
            x, y = draw.sample(range(hands), 2)
            slip = (1 << y,) + draw.choice(((), ((1 << hands) - 1 - (1 << x) - (1 << y),)))
            slip = slip if all(slip) else slip[:1]
            if sheet and draw.random() < 0.3:
                slip = draw.choice(sheet)[0]
                if not slip or not slip[0] >> y & 1 or slip[0] >> x & 1:
                    continue
            free = free_for(sheet, slip)
            self.assertEqual(free, ballots_in(sheet) - number_of(sheet, slip))
            for many in {0, free, max(0, free - 1), draw.randint(0, free)}:
                change = shift(sheet, x, y, slip, many)
                self.assertEqual(change, plain_shift(sheet, x, y, slip, many))
                after = changed(sheet, change)
                self.assertEqual(number_of(after, slip), number_of(sheet, slip) + many)
                self.assertEqual(ballots_in(after), ballots_in(sheet))

    def test_what_is_told_is_the_askers_own(self):
        """[0.2]"""
        sheet = list(SHEET)
        self.assertTrue(is_told_anew(lambda: shift(sheet, 0, 1, (2, 4), 9)))
        free_for(sheet, (2,))
        self.assertEqual(sheet, SHEET)
