import itertools
import unittest

from tests.draws import is_told_anew
from tests.things import anything_but_lists, anything_but_numbers
from wholepoll.errors import NoWay
from wholepoll.lists import Lists
from wholepoll.pairs import Pairs
from wholepoll.ways import Checker, Way

SHEET = [((), 4), ((1,), 5), ((1, 2), 2), ((2, 1), 5)]
MADE = (Way, Pairs, Lists)


class Told(Way):
    """A way beneath, by whose own words `outcome` must go."""

    def counted(self, sheet):
        return ("paper", len(sheet))

    def told_by(self, paper):
        return [paper[1]] * self.hands


class Strict(Checker):
    """A checker beneath, by whose own word `passes` must go."""

    def right(self, sheet, paper):
        return paper == self.way.counted(sheet)


class Made(unittest.TestCase):
    """[6.1]"""

    def test_hands(self):
        for made in MADE:
            for hands in range(1, 13):
                way = made(hands, 1)
                self.assertEqual((way.hands, way.seats, way.lots), (hands, 1, list(range(hands))))
            for hands in [0, 13, -1, 10 ** 60] + anything_but_numbers():
                with self.assertRaises(NoWay):
                    made(hands, 1)
                with self.assertRaises(NoWay):
                    made(hands, 1, [0])

    def test_seats(self):
        for made in MADE:
            for seats in (1, 2, 12, 59, 60):
                self.assertEqual(made(2, seats).seats, seats)
            for seats in [0, 61, -1, 10 ** 60] + anything_but_numbers():
                with self.assertRaises(NoWay):
                    made(2, seats)

    def test_lots(self):
        for made in MADE:
            self.assertEqual(made(3, 1, None).lots, [0, 1, 2])
            for order in itertools.permutations(range(3)):
                self.assertEqual(made(3, 1, list(order)).lots, list(order))
            self.assertEqual(made(1, 1, [0]).lots, [0])
            self.assertEqual(made(12, 60, list(range(11, -1, -1))).lots, list(range(11, -1, -1)))

    def test_no_lots(self):
        wrong = [
            [], [0], [0, 1], [0, 1, 2, 3], [0, 0, 1], [0, 1, 3], [1, 2, 3], [-1, 0, 1], [0, True, 2], [False, 1, 2],
            [0, 1, "2"], [0, 1, None], [0, 1, [2]], [[0, 1, 2]], [0, 1, 10 ** 60], (0, 1, 2), ((0, 1, 2),), {0: 1, 1: 1, 2: 2},
        ]
        for made in MADE:
            for lots in wrong + [thing for thing in anything_but_lists() if thing is not None]:
                with self.assertRaises(NoWay):
                    made(3, 1, lots)
            for thing in anything_but_numbers():
                with self.assertRaises(NoWay):
                    made(3, 1, [0, thing, 2])

    def test_the_list_of_lots_is_its_own(self):
        """[0.2]"""
        for made in MADE:
            lots = [2, 0, 1]
            way = made(3, 1, lots)
            self.assertEqual(lots, [2, 0, 1])
            lots.reverse()
            self.assertEqual(way.lots, [2, 0, 1])
            self.assertTrue(way.ahead(2, 1))
            lots.clear()
            self.assertEqual(way.lots, [2, 0, 1])
            self.assertIsNot(made(3, 1).lots, made(3, 1).lots)

    def test_ahead(self):
        for made in MADE:
            way = made(4, 1, [2, 0, 3, 1])
            ahead = [(one, other) for one in range(4) for other in range(4) if way.ahead(one, other)]
            self.assertEqual(ahead, [(0, 1), (0, 3), (2, 0), (2, 1), (2, 3), (3, 1)])
            for one, other in itertools.product(range(4), repeat=2):
                self.assertIs(way.ahead(one, other), (one, other) in ahead)
                self.assertIs(made(4, 1).ahead(one, other), one < other)


class Ways(unittest.TestCase):
    """[6.2]"""

    def test_a_way_by_itself(self):
        way = Way(3, 2, [1, 2, 0])
        self.assertIsNone(way.counted(SHEET))
        self.assertIsNone(way.counted([]))
        for paper in (None, 5, [], (1, 2), "paper"):
            self.assertEqual(way.told_by(paper), [0, 0, 0])
        self.assertEqual(way.outcome(SHEET), [0, 0, 0])
        self.assertTrue(is_told_anew(lambda: way.outcome(SHEET)))
        self.assertTrue(is_told_anew(lambda: way.told_by(None)))

    def test_outcome_goes_by_the_way_itself(self):
        self.assertEqual(Told(2, 1).outcome(SHEET), [4, 4])
        for base in (Pairs, Lists):
            class Under(base):
                counted = Told.counted
                told_by = Told.told_by
            self.assertEqual(Under(3, 1).outcome(SHEET), [4, 4, 4])


class Checkers(unittest.TestCase):
    """[6.3]"""

    def test_a_checker_by_itself(self):
        for way in (Way(2, 1), Pairs(2, 1), Lists(2, 1)):
            checker = Checker(way)
            self.assertIs(checker.way, way)
            self.assertIs(checker.right(SHEET, way.counted(SHEET)), False)
            self.assertIs(checker.passes(SHEET, way.counted(SHEET), way.outcome(SHEET)), False)

    def test_passes_goes_by_right_and_the_way(self):
        checker = Strict(Told(2, 1))
        self.assertIs(checker.passes(SHEET, ("paper", 4), [4, 4]), True)
        self.assertIs(checker.passes(SHEET, ("paper", 4), [4, 5]), False)
        self.assertIs(checker.passes(SHEET, ("paper", 5), [5, 5]), False)
        for outcome in ([], [4], [4, 4, 4], [-4, -4], [10 ** 60, 4]):
            self.assertIs(checker.passes(SHEET, ("paper", 4), outcome), False)
