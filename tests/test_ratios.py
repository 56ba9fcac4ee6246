import math
import unittest
from fractions import Fraction

from tests.things import anything_but_numbers
from wholepoll.errors import NoNumber
from wholepoll.ratios import fraction, least_above, least_from, minus, parted, plus, times, total, under

HUGE = (10 ** 799 + 1, 10 ** 799 + 3)
SOME = [(0, 1), (1, 1), (-1, 1), (1, 2), (-1, 2), (2, 3), (-7, 6), (5, 4), (12, 1), (10 ** 60, 7), fraction(*HUGE)]


def as_told(worth):
    return (worth.numerator, worth.denominator)


def worth_of(one):
    return Fraction(one[0], one[1])


class Fractions(unittest.TestCase):
    def test_lowest_terms_for_each_sign(self):
        """[1.1] [1.5]"""
        self.assertEqual(fraction(2, 4), (1, 2))
        self.assertEqual(fraction(-2, 4), (-1, 2))
        self.assertEqual(fraction(1, -2), (-1, 2))
        self.assertEqual(fraction(-2, -4), (1, 2))
        self.assertEqual(fraction(0, 5), (0, 1))
        self.assertEqual(fraction(0, -5), (0, 1))
        self.assertEqual(fraction(6, 3), (2, 1))
        self.assertEqual(fraction(-6, -1), (6, 1))

    def test_all_small_ones(self):
        """[1.5]"""
        for top in range(-13, 14):
            for bottom in list(range(-13, 0)) + list(range(1, 14)):
                self.assertEqual(fraction(top, bottom), as_told(Fraction(top, bottom)))

    def test_eight_hundred_figures(self):
        """[1.1]"""
        shared = 10 ** 99 + 1
        top, bottom = fraction(HUGE[0] * shared, -HUGE[1] * shared)
        self.assertEqual((top, bottom), (-HUGE[0] // math.gcd(*HUGE), HUGE[1] // math.gcd(*HUGE)))

    def test_no_number(self):
        """[1.5]"""
        for thing in anything_but_numbers():
            for top, bottom in ((thing, 1), (1, thing), (thing, thing), (thing, 0)):
                with self.assertRaises(NoNumber):
                    fraction(top, bottom)
        for top in (0, 1, -1):
            with self.assertRaises(NoNumber):
                fraction(top, 0)

    def test_sums_and_products(self):
        """[1.6]"""
        for one in SOME:
            for other in SOME:
                a, b = worth_of(one), worth_of(other)
                self.assertEqual(plus(one, other), as_told(a + b))
                self.assertEqual(minus(one, other), as_told(a - b))
                self.assertEqual(times(one, other), as_told(a * b))
                if other[0] != 0:
                    self.assertEqual(parted(one, other), as_told(a / b))

    def test_parted_by_nought(self):
        """[1.6]"""
        for one in SOME:
            with self.assertRaises(NoNumber):
                parted(one, (0, 1))

    def test_under(self):
        """[1.7]"""
        for one in SOME:
            for other in SOME:
                self.assertIs(under(one, other), worth_of(one) < worth_of(other))

    def test_least(self):
        """[1.8]"""
        self.assertEqual((least_from((7, 2)), least_above((7, 2))), (4, 4))
        self.assertEqual((least_from((6, 1)), least_above((6, 1))), (6, 7))
        self.assertEqual((least_from((-1, 2)), least_above((-1, 2))), (0, 0))
        self.assertEqual((least_from((-7, 2)), least_above((-7, 2))), (-3, -3))
        self.assertEqual((least_from((-6, 1)), least_above((-6, 1))), (-6, -5))
        self.assertEqual((least_from((0, 1)), least_above((0, 1))), (0, 1))
        for one in SOME:
            self.assertEqual(least_from(one), math.ceil(worth_of(one)))
            self.assertEqual(least_above(one), math.floor(worth_of(one)) + 1)

    def test_total(self):
        """[1.9]"""
        self.assertEqual(total([]), (0, 1))
        self.assertEqual(total([(1, 2)]), (1, 2))
        self.assertEqual(total([(1, 2), (1, 3), (1, 6)]), (1, 1))
        self.assertEqual(total([(1, 2), (-1, 2)]), (0, 1))
        self.assertEqual(total(SOME), as_told(sum(map(worth_of, SOME), Fraction(0))))

    def test_a_list_handed_in_stays(self):
        """[1.9] [0.2]"""
        some = [(1, 2), (1, 3)]
        self.assertEqual(total(some), (5, 6))
        self.assertEqual(some, [(1, 2), (1, 3)])
