import unittest

from tests.things import anything_but_numbers
from wholepoll.wholes import divisor, down, is_whole, up

BIG = 10 ** 399 + 7


class Wholes(unittest.TestCase):
    def test_is_whole(self):
        """[1.2]"""
        for number in (0, 1, -1, 10 ** 399, -10 ** 399):
            self.assertIs(is_whole(number), True)

    def test_nothing_else_is_whole(self):
        """[1.2] [0.2]"""
        for thing in anything_but_numbers():
            self.assertIs(is_whole(thing), False)

    def test_divisor(self):
        """[1.3]"""
        self.assertEqual(divisor(12, 18), 6)
        self.assertEqual(divisor(7, 5), 1)
        self.assertEqual(divisor(6, 3), 3)
        self.assertEqual(divisor(0, 0), 0)
        self.assertEqual(divisor(0, 4), 4)
        self.assertEqual(divisor(-4, 0), 4)
        for one in (12, -12):
            for other in (18, -18):
                self.assertEqual(divisor(one, other), 6)

    def test_divisor_is_the_greatest(self):
        """[1.3]"""
        for one in range(-12, 13):
            for other in range(-12, 13):
                if one != 0 or other != 0:
                    both = [k for k in range(1, 13) if one % k == 0 and other % k == 0]
                    self.assertEqual(divisor(one, other), max(both))

    def test_divisor_of_four_hundred_figures(self):
        """[1.3]"""
        shared = 10 ** 199 + 9
        self.assertEqual(divisor(shared * 10 ** 200, -shared * (10 ** 200 + 1)), shared)

    def test_down_and_up(self):
        """[1.4]"""
        self.assertEqual((down(7, 2), up(7, 2)), (3, 4))
        self.assertEqual((down(-7, 2), up(-7, 2)), (-4, -3))
        self.assertEqual((down(6, 2), up(6, 2)), (3, 3))
        self.assertEqual((down(-6, 2), up(-6, 2)), (-3, -3))
        self.assertEqual((down(0, 5), up(0, 5)), (0, 0))

    def test_down_and_up_hold_what_they_say(self):
        """[1.4]"""
        for top in list(range(-30, 31)) + [BIG, -BIG]:
            for bottom in (1, 2, 3, 7, 29, 10 ** 200 + 1, BIG):
                low, high = down(top, bottom), up(top, bottom)
                self.assertTrue(low * bottom <= top < (low + 1) * bottom)
                self.assertTrue((high - 1) * bottom < top <= high * bottom)
