import unittest

from tests.things import anything_but_numbers, no_words
from wholepoll.words import is_count, is_order, is_word


class Words(unittest.TestCase):
    """[1.11]"""

    def test_words(self):
        for text in ("a", "z", "ann", "abcdefgh", "zzzzzzzz"):
            self.assertIs(is_word(text), True)

    def test_no_words(self):
        for text in ("", "abcdefghi", "A", "Ann", "aNn", "a b", " a", "a ", "a1", "1", "a-", "a\n", "\n", "`", "{", "_"):
            self.assertIs(is_word(text), False)
        for thing in no_words():
            self.assertIs(is_word(thing), False)


class Counts(unittest.TestCase):
    """[1.11]"""

    def test_counts(self):
        for number, most in ((0, 0), (0, 5), (5, 5), (3, 5), (10 ** 9, 10 ** 9), (1, 10 ** 60)):
            self.assertIs(is_count(number, most), True)

    def test_no_counts(self):
        for number, most in ((-1, 5), (6, 5), (1, 0), (10 ** 9 + 1, 10 ** 9), (-10 ** 60, 5)):
            self.assertIs(is_count(number, most), False)
        for thing in anything_but_numbers():
            self.assertIs(is_count(thing, 10), False)


class Orders(unittest.TestCase):
    """[1.11]"""

    def test_orders(self):
        for thing in ([0], [0, 1, 2], [2, 0, 1], (0,), (1, 0), tuple(range(60))):
            self.assertIs(is_order(thing, len(thing)), True)
        self.assertIs(is_order([], 0), True)
        self.assertIs(is_order((), 0), True)

    def test_no_orders(self):
        for thing, many in (
            ([0, 1], 3), ([0, 1, 2, 3], 3), ([0, 0, 1], 3), ([0, 1, 1], 3), ([1, 2, 3], 3), ([-1, 0, 1], 3),
            ([0, 1, 2, 2], 3), ([], 1), ([0], 0), ((0, 2), 2),
            ([0, True], 2), ([False, 1], 2), ((False,), 1), ([0, "1"], 2), ([0, None], 2), ([0, [1]], 2),
        ):
            self.assertIs(is_order(thing, many), False, thing)

    def test_other_kinds(self):
        for thing in anything_but_numbers():
            self.assertIs(is_order(thing, 2), False)
            self.assertIs(is_order([0, thing], 2), False)
            self.assertIs(is_order((thing,), 1), False)
        for thing in ("01", {0: 0, 1: 1}, {0, 1}, range(2), 2):
            self.assertIs(is_order(thing, 2), False)

    def test_a_list_handed_in_stays(self):
        """[0.2]"""
        order = [2, 0, 1]
        is_order(order, 3)
        self.assertEqual(order, [2, 0, 1])
