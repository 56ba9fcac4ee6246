import random
import unittest

from tests.draws import any_lots, is_told_anew, votes_sheet
from tests.test_evening import plain_evening
from tests.test_house import LAND, SHEETS, drawn_land, drawn_sheets
from wholepoll.errors import TooMany
from wholepoll.house import House
from wholepoll.lands import Land
from wholepoll.levelled import levelled
from wholepoll.lists import Lists
from wholepoll.pairs import Pairs


def plain_levelled(land, sheets, most):
    """[8.7] A going through of all sizes; None where the size would be above most."""
    had = [sum(column) for column in zip(*House(land, sheets).by_area())]
    votes = land.votes(sheets)
    among = [hand for hand in range(land.hands) if votes[hand] >= land.least_votes(sum(votes))]
    if not among:
        return (0, had, None)
    # Lands have at most sixty evened seats, so evening is told in plain words here.
    land = Any(land, most)
    winners = [hand for marks, hand in plain_evening(land, votes, [0] * land.hands)[2]]
    floor = land.floor + sum(had[hand] for hand in among)

    def fewer(size):
        return [hand for hand in among if winners[:size].count(hand) < had[hand]]

    for size in range(floor, most + 1):
        if not fewer(size):
            seats = [winners[:size].count(hand) if hand in among else had[hand] for hand in range(land.hands)]
            return (size, seats, None if size == floor else min(fewer(size - 1)))
    return None


class Any:
    """A land with as many evened seats as wanted."""

    def __init__(self, land, evened):
        self.hands, self.lots, self.hurdle, self.step = land.hands, land.lots, land.hurdle, land.step
        self.evened, self.floor = evened, land.evened


def told_or_none(land, sheets, most):
    try:
        return levelled(land, sheets, most=most)
    except TooMany as refusal:
        assert refusal.most == most
        return None


def one_area(seats, evened=0, lots=None, hurdle=None, step=1, own=None):
    return Land([Lists(3, seats, None, own)], evened, lots, hurdle, step)


class Levelled(unittest.TestCase):
    """[8.7]"""

    def test_the_least_size_there_may_be(self):
        sheets = [[((1,), 6), ((2,), 3), ((4,), 1)]]
        self.assertEqual(levelled(one_area(4), sheets), (4, [3, 1, 0], None))
        self.assertEqual(levelled(one_area(4, 6), sheets), (10, [6, 3, 1], None))
        self.assertEqual(levelled(one_area(4), sheets, most=4), (4, [3, 1, 0], None))

    def test_larger_ones_and_the_hand_that_needs_it(self):
        # Hand 1 has two seats of the areas by few votes; the second one of nine goes to it at last.
        land = Land([Lists(2, 1), Lists(2, 1), Lists(2, 1)], 0)
        sheets = [[((1,), 7)], [((2,), 1)], [((2,), 1)]]
        self.assertEqual(levelled(land, sheets), (9, [7, 2], 1))
        self.assertEqual(levelled(Land(land.areas, 0, [1, 0]), sheets), (8, [6, 2], 1))
        self.assertEqual(levelled(Land(land.areas, 5), sheets), (9, [7, 2], 1))
        self.assertEqual(levelled(Land(land.areas, 6), sheets), (9, [7, 2], None))
        self.assertEqual(levelled(Land(land.areas, 7), sheets), (10, [8, 2], None))
        self.assertEqual(levelled(land, sheets, most=9), (9, [7, 2], 1))
        with self.assertRaises(TooMany) as caught:
            levelled(land, sheets, most=8)
        self.assertEqual(caught.exception.most, 8)

    def test_hands_that_take_no_part_keep_the_seats_of_their_areas(self):
        land = Land([Lists(3, 2), Pairs(3, 2)], 3, None, (1, 4))
        sheets = [[((1,), 6), ((2,), 6)], [((4,), 3)]]
        # The hurdle asks for four of fifteen; hands 0 and 1 have two seats of the areas, and hand 0 one by lots.
        self.assertEqual(House(land, sheets).by_area(), [[1, 1, 0], [1, 0, 1]])
        self.assertEqual(levelled(land, sheets), (6, [3, 3, 1], None))

    def test_nobody_takes_part(self):
        land = Land([Lists(3, 2), Pairs(3, 2)], 9, None, (1, 1))
        for most in (0, 1, 200, 400):
            self.assertEqual(levelled(land, [[((1,), 1)], [((2,), 3)]], most=most), (0, [3, 1, 0], None))
            self.assertEqual(levelled(land, [[], []], most=most), (0, [1, 1, 0], None))

    def test_no_seats_at_all(self):
        # Hand 0 takes part in the land, but no hand in the area.
        self.assertEqual(levelled(one_area(2, 0, None, None, 1, (1, 1)), [[((1,), 1), ((2,), 1)]], most=0), (0, [0, 0, 0], None))

    def test_most(self):
        sheets = [[((1,), 6), ((2,), 3), ((4,), 1)]]
        for evened in (0, 3):
            size = 4 + evened
            for most in (size, size + 1, 200, 400):
                self.assertEqual(levelled(one_area(4, evened), sheets, most=most)[0], size)
            for most in (0, 1, size - 1):
                with self.assertRaises(TooMany) as caught:
                    levelled(one_area(4, evened), sheets, most=most)
                self.assertEqual(caught.exception.most, most)

    def test_most_left_out_is_two_hundred(self):
        land = Land([Lists(2, 1), Lists(2, 1)])
        for many, due in ((199, 200), (200, None)):
            sheets = [[((1,), many)], [((2,), 1)]]
            if due:
                self.assertEqual(levelled(land, sheets), (due, [199, 1], 1))
            else:
                with self.assertRaises(TooMany) as caught:
                    levelled(land, sheets)
                self.assertEqual(caught.exception.most, 200)
                self.assertEqual(levelled(land, sheets, most=201), (201, [200, 1], 1))
        self.assertEqual(levelled(land, [[((1,), 399)], [((2,), 1)]], most=400), (400, [399, 1], 1))
        with self.assertRaises(TooMany) as caught:
            levelled(land, [[((1,), 400)], [((2,), 1)]], most=400)
        self.assertEqual(caught.exception.most, 400)

    def test_more_seats_of_areas_than_there_may_be(self):
        land = Land([Lists(1, 60) for _ in range(6)], 60)
        for most in (400, 200):
            with self.assertRaises(TooMany):
                levelled(land, [[((1,), 1)]] * 6, most=most)
        self.assertEqual(levelled(Land(land.areas, 40), [[((1,), 1)]] * 6, most=400), (400, [400], None))

    def test_each_size_gone_through(self):
        draw = random.Random(87)
        met = {}
        for _ in range(250):
            land = drawn_land(draw, (Lists, Pairs))
            if draw.random() < 0.6:
                land = Land([Lists(3, draw.randint(1, 4)) for _ in range(3)], 0, any_lots(draw, 3), (1, 20), draw.randint(1, 3))
                sheets = [votes_sheet(draw, 3, draw.choice((1, 30))) for _ in land.areas]
            else:
                sheets = drawn_sheets(draw, land)
            most = draw.choice((0, 5, 20, 60))
            due = plain_levelled(land, sheets, most)
            self.assertEqual(told_or_none(land, sheets, most), due)
            kind = "refused" if due is None else "nobody" if due[0] == 0 else "least" if due[2] is None else "larger"
            met[kind] = met.get(kind, 0) + 1
            if kind == "larger":
                self.assertEqual(told_or_none(land, sheets, due[0]), due)
                self.assertIsNone(told_or_none(land, sheets, due[0] - 1))
        self.assertGreater(min(met.values()), 10)
        self.assertEqual(len(met), 4)

    def test_what_is_told_is_the_askers_own(self):
        """[0.2]"""
        sheets = [list(sheet) for sheet in SHEETS]
        self.assertTrue(is_told_anew(lambda: levelled(LAND, sheets)))
        self.assertTrue(is_told_anew(lambda: levelled(LAND, [[], [], []])))
        self.assertEqual(sheets, SHEETS)
