import unittest

from wholepoll.sets import all_of, holds, members, size, with_one, without

MASKS = [0, 1, 2, 5, 7, 37, 1000, 2047, 2048, 4094, 4095]


class Sets(unittest.TestCase):
    """[2.1]"""

    def test_all_of(self):
        self.assertEqual([all_of(hands) for hands in (0, 1, 2, 3, 12)], [0, 1, 3, 7, 4095])

    def test_members(self):
        self.assertEqual(members(0), [])
        self.assertEqual(members(1), [0])
        self.assertEqual(members(2048), [11])
        self.assertEqual(members(37), [0, 2, 5])
        self.assertEqual(members(4095), list(range(12)))

    def test_each_mask_by_its_members(self):
        for mask in MASKS:
            there = members(mask)
            self.assertEqual(sum(2 ** hand for hand in there), mask)
            self.assertEqual(there, sorted(set(there)))
            self.assertEqual(size(mask), len(there))
            for hand in range(12):
                self.assertIs(holds(mask, hand), hand in there)
                self.assertEqual(set(members(with_one(mask, hand))), set(there) | {hand})
                self.assertEqual(set(members(without(mask, hand))), set(there) - {hand})

    def test_bounds(self):
        self.assertEqual(with_one(0, 0), 1)
        self.assertEqual(with_one(4095, 11), 4095)
        self.assertEqual(without(4095, 11), 2047)
        self.assertEqual(without(0, 0), 0)
        self.assertEqual((size(0), size(4095)), (0, 12))

    def test_the_told_list_is_a_new_one(self):
        """[0.2]"""
        first = members(7)
        first.append(9)
        self.assertEqual(members(7), [0, 1, 2])
        self.assertIsNot(members(0), members(0))
