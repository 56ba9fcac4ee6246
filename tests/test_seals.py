import itertools
import unittest

from wholepoll.errors import Torn
from wholepoll.seals import mended, seal_of

LISTS = [[10, 20], [0, 0, 0], [5], [-3, 7, -3, 10 ** 60, 0], [872, 507, 14, 872, 1, 2]]


class SealOf(unittest.TestCase):
    """[5.3]"""

    def test_examples(self):
        self.assertEqual(seal_of([10, 20]), (2, 30, 50, 90))
        self.assertEqual(seal_of([]), (0, 0, 0, 0))

    def test_codes_below_nought(self):
        self.assertEqual(seal_of([-1, 4, -2]), (3, 1, -1 + 8 - 6, -1 + 16 - 18))

    def test_codes_stay(self):
        """[0.2]"""
        codes = [3, 1, 2]
        seal_of(codes)
        self.assertEqual(codes, [3, 1, 2])


class Mended(unittest.TestCase):
    """[5.4] [5.5]"""

    def test_nothing_altered(self):
        for codes in LISTS + [[]]:
            told = mended(codes, seal_of(codes))
            self.assertEqual(told, (codes, 0))
            self.assertIsNot(told[0], codes)

    def test_altered_at_each_place(self):
        for codes in LISTS:
            for at in range(len(codes)):
                for by in (1, -1, 7, -10 ** 12, 10 ** 59):
                    altered = list(codes)
                    altered[at] += by
                    kept = list(altered)
                    self.assertEqual(mended(altered, seal_of(codes)), (codes, at + 1))
                    self.assertEqual(altered, kept)

    def test_altered_at_two_places(self):
        for codes in LISTS:
            for one, other in itertools.combinations(range(len(codes)), 2):
                for by, more in itertools.product((-6, -4, -2, -1, 1, 2, 3, 4, 12), repeat=2):
                    altered = list(codes)
                    altered[one] += by
                    altered[other] += more
                    with self.assertRaises(Torn):
                        mended(altered, seal_of(codes))

    def test_two_exchanged(self):
        for codes in LISTS:
            for one, other in itertools.combinations(range(len(codes)), 2):
                altered = list(codes)
                altered[one], altered[other] = altered[other], altered[one]
                if altered != codes:
                    with self.assertRaises(Torn):
                        mended(altered, seal_of(codes))

    def test_one_more_and_one_fewer(self):
        for codes in LISTS:
            for altered in (codes + [0], codes + [9], codes[:-1], [0] + codes, codes[1:], []):
                with self.assertRaises(Torn):
                    mended(altered, seal_of(codes))

    def test_each_number_of_the_seal_otherwise(self):
        for codes in LISTS + [[]]:
            for at in range(4):
                for by in (-1, 1, 5):
                    seal = list(seal_of(codes))
                    seal[at] += by
                    with self.assertRaises(Torn):
                        mended(codes, tuple(seal))

    def test_a_seal_made_right_by_another_code(self):
        self.assertEqual(mended([10, 20], (2, 27, 44, 78)), ([10, 17], 2))
        self.assertEqual(mended([10, 20], (2, -30, -10, 30)), ([-50, 20], 1))
        for seal in ((2, 33, 59, 117), (2, 30, 50, 91), (2, 31, 50, 90), (2, 32, 53, 95), (2, 29, 50, 90)):
            with self.assertRaises(Torn):
                mended([10, 20], seal)

    def test_the_told_list_is_a_new_one(self):
        """[0.2]"""
        codes = [10, 20]
        mended(codes, seal_of(codes))[0].append(1)
        mended([10, 21], seal_of(codes))[0].append(1)
        self.assertEqual(codes, [10, 20])
