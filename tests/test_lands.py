import itertools
import random
import unittest

from tests.draws import any_sheet, is_told_anew, votes_sheet
from tests.things import anything_but_lists, anything_but_numbers, anything_but_tuples, no_wholes
from wholepoll.errors import NoLand
from wholepoll.lands import Land
from wholepoll.lists import Lists, votes_of
from wholepoll.pairs import Pairs
from wholepoll.ways import Checker, Way

HUGE = 10 ** 60 - 1
LISTS, PAIRS = Lists(3, 4), Pairs(3, 1)


class Made(unittest.TestCase):
    """[8.1]"""

    def test_areas(self):
        for areas in ([LISTS], [PAIRS], (LISTS, PAIRS), [PAIRS] * 6, (LISTS,) * 5, [Lists(3, 1, [2, 1, 0], (1, 5), 3), PAIRS]):
            land = Land(areas)
            self.assertEqual(land.areas, list(areas))
            self.assertIsInstance(land.areas, list)
            self.assertEqual((land.hands, land.evened, land.lots, land.hurdle, land.step), (3, 0, [0, 1, 2], (0, 1), 1))
        for hands in range(1, 13):
            self.assertEqual(Land([Lists(hands, 1), Pairs(hands, 2)]).hands, hands)

    def test_no_areas(self):
        for areas in (
            [], (), [LISTS] * 7, (PAIRS,) * 7, [Way(3, 1)], [LISTS, Way(3, 1)], [Checker(LISTS)], [LISTS, Lists(4, 4)],
            [PAIRS, Pairs(2, 1)], [Lists(2, 1), Pairs(2, 1), Pairs(3, 1)], [LISTS, None], [None], [[LISTS]], [(LISTS,)],
            [Lists], [Pairs, Lists], {0: LISTS}, {LISTS: 1}, {LISTS}, LISTS, PAIRS, Land([LISTS]), [Land([LISTS])],
        ):
            with self.assertRaises(NoLand):
                Land(areas)
        for thing in no_wholes() + [0, 1, HUGE, "", "ab", [1], (1,), ["a"]]:
            for areas in (thing, [thing], (thing,), [LISTS, thing], (thing, PAIRS)):
                with self.assertRaises(NoLand):
                    Land(areas)

    def test_evened(self):
        for evened in (0, 1, 59, 60):
            self.assertEqual(Land([LISTS], evened).evened, evened)
        for evened in [-1, 61, HUGE, -HUGE] + anything_but_numbers():
            with self.assertRaises(NoLand):
                Land([LISTS], evened)

    def test_lots(self):
        for order in itertools.permutations(range(3)):
            land = Land([LISTS, PAIRS], 2, list(order))
            self.assertEqual(land.lots, list(order))
            for one, other in itertools.product(range(3), repeat=2):
                self.assertIs(land.ahead(one, other), order.index(one) < order.index(other))
        self.assertEqual(Land([Lists(3, 4, [2, 1, 0])], 2, None).lots, [0, 1, 2])
        for lots in [[], [0, 1], [0, 1, 2, 3], [0, 0, 1], [1, 2, 3], [0, True, 2], [0, 1, "2"], (0, 1, 2), {0: 0, 1: 1, 2: 2}]:
            with self.assertRaises(NoLand):
                Land([LISTS], 2, lots)
        for thing in anything_but_lists():
            if thing is not None:
                with self.assertRaises(NoLand):
                    Land([LISTS], 2, thing)
        for thing in anything_but_numbers():
            with self.assertRaises(NoLand):
                Land([LISTS], 2, [thing, 1, 2])

    def test_hurdle(self):
        for hurdle in ((0, 1), (1, 1), (1, 20), (HUGE - 1, HUGE)):
            self.assertEqual(Land([LISTS], 2, None, hurdle).hurdle, hurdle)
        self.assertEqual(Land([Lists(3, 4, None, (1, 5))], 2, None, None).hurdle, (0, 1))
        for hurdle in [(2, 4), (0, 2), (0, 0), (1, 0), (2, 1), (-1, 2), (1, -2), [1, 2], (1,), (1, 2, 3), (True, 1), (1, True)]:
            with self.assertRaises(NoLand):
                Land([LISTS], 2, None, hurdle)
        for thing in anything_but_tuples():
            if thing is not None:
                with self.assertRaises(NoLand):
                    Land([LISTS], 2, None, thing)

    def test_step(self):
        for step in (1, 2, 9):
            self.assertEqual(Land([LISTS], 2, None, None, step).step, step)
        for step in [0, 10, -1, HUGE] + anything_but_numbers():
            with self.assertRaises(NoLand):
                Land([LISTS], 2, None, None, step)

    def test_its_lists_are_its_own(self):
        """[0.2]"""
        areas, lots = [LISTS, PAIRS], [2, 0, 1]
        land = Land(areas, 2, lots)
        self.assertEqual((areas, lots), ([LISTS, PAIRS], [2, 0, 1]))
        areas.clear()
        lots.reverse()
        self.assertEqual((land.areas, land.lots), ([LISTS, PAIRS], [2, 0, 1]))
        self.assertTrue(land.ahead(2, 0))


class Votes(unittest.TestCase):
    """[8.2]"""

    def test_of_all_areas_together(self):
        sheets = [[((), 2), ((1,), 5), ((3,), 1)], [], [((1, 2), 4), ((4,), 3), ((4, 1), 10 ** 12)]]
        self.assertEqual(Land([LISTS, PAIRS, LISTS]).votes(sheets), [9, 0, 10 ** 12 + 3, 3])
        self.assertEqual(Land([PAIRS]).votes([[]]), [0, 0, 0, 0])

    def test_drawn(self):
        draw = random.Random(82)
        for _ in range(50):
            sheets = [any_sheet(draw, 3) for _ in range(draw.randint(1, 6))]
            land = Land([draw.choice((LISTS, PAIRS)) for _ in sheets])
            votes = land.votes(sheets)
            self.assertEqual(votes, [sum(column) for column in zip(*(votes_of(sheet, 3) for sheet in sheets))])
            self.assertTrue(is_told_anew(lambda: land.votes(sheets)))

    def test_what_is_handed_in_stays(self):
        """[0.2]"""
        sheets = [votes_sheet(random.Random(1), 3), [((1,), 2)]]
        kept = [list(sheet) for sheet in sheets]
        Land([LISTS, PAIRS]).votes(sheets)
        self.assertEqual(sheets, kept)

    def test_least_votes(self):
        land = Land([Lists(3, 4, None, (1, 2))], 2, None, (1, 20))
        self.assertEqual([land.least_votes(ballots) for ballots in (41, 40, 20, 1, 0)], [3, 2, 1, 1, 1])
        self.assertEqual([Land([LISTS]).least_votes(ballots) for ballots in (0, 1, 10 ** 12)], [1, 1, 1])
        self.assertEqual(Land([LISTS], 0, None, (1, 1)).least_votes(7), 7)

    def test_mark(self):
        land = Land([Lists(3, 4, None, None, 7)], 2, None, None, 2)
        self.assertEqual([land.mark(6, had) for had in range(4)], [(6, 1), (2, 1), (6, 5), (6, 7)])
        self.assertEqual(Land([Lists(3, 4, None, None, 7)]).mark(6, 3), (3, 2))
