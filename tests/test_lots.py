import itertools
import random
import unittest

from tests.draws import any_sheet, is_told_anew, sheets_of, votes_sheet
from tests.test_landmargin import small_land
from tests.test_listmargin import lists_slips
from wholepoll.house import House
from wholepoll.landmargin import LandMargin
from wholepoll.lands import Land
from wholepoll.lists import Lists
from wholepoll.lots import fewest, greatest_open, least_lots, must_look, settles
from wholepoll.pairs import Pairs
from wholepoll.sheets import ballots_in, joined

LAND = Land([Lists(2, 1), Pairs(2, 1)], 1)


def by_area(land, bundles):
    return [joined([sheet for one, sheet in bundles if one == area]) for area in range(len(land.areas))]


def plain_settles(land, bundles, lot):
    """[9.5]"""
    inside = [one for place, one in enumerate(bundles) if lot >> place & 1]
    outside = [one for place, one in enumerate(bundles) if not lot >> place & 1]
    unseen = [ballots_in(sheet) for sheet in by_area(land, outside)]
    return LandMargin(land).held(by_area(land, inside), unseen, by_area(land, bundles))


def plain_lots(land, bundles):
    """[9.5] Least lots and greatest open ones, by a going through of all lots."""
    lots = range(1 << len(bundles))
    settling = {lot: plain_settles(land, bundles, lot) for lot in lots}
    least = [lot for lot in lots if settling[lot] and not any(settling[one] and one & lot == one != lot for one in lots)]
    greatest = [lot for lot in lots if not settling[lot] and not any(not settling[one] and one & lot == lot != one for one in lots)]
    return least, greatest


def drawn_bundles(draw, land, many, most):
    return [(draw.randrange(len(land.areas)), votes_sheet(draw, land.hands, most)) for _ in range(many)]


class Settles(unittest.TestCase):
    """[9.5]"""

    def test_ordinary(self):
        bundles = [(0, [((1,), 5)]), (0, [((2,), 2)]), (1, [((1, 2), 9)]), (1, [((2, 1), 1)])]
        self.assertIs(settles(LAND, bundles, 0b1111), True)
        self.assertIs(settles(LAND, bundles, 0), False)
        # Bundles 0 and 2 settle the areas; evening begins with [2, 0], with marks 14 / 3 and at most 3.
        self.assertIs(settles(LAND, bundles, 0b0101), plain_settles(LAND, bundles, 0b0101))
        self.assertIs(settles(Land(LAND.areas), bundles, 0b0101), True)
        for lot in (0b0001, 0b0100, 0b1110, 0b1011):
            self.assertIs(settles(Land(LAND.areas), bundles, lot), False)

    def test_places_not_areas(self):
        """A lot is of places of bundles, whatever their areas."""
        bundles = [(1, [((1,), 1)]), (0, [((1,), 9)])]
        land = Land([Lists(2, 1), Pairs(2, 2)])
        self.assertIs(settles(land, bundles, 0b10), True)
        self.assertIs(settles(land, bundles, 0b01), False)

    def test_no_ballots_whatever_in_the_others(self):
        """By lists a lot settles just where no ballots in the others make another outcome."""
        draw = random.Random(95)
        met = {True: 0, False: 0}
        for _ in range(60):
            land, _ = small_land(draw)
            bundles = drawn_bundles(draw, land, 3, 1) + [(0, [((1,), 3)])]
            now = House(land, by_area(land, bundles)).outcome()
            for lot in range(1, 16):
                left = [one for place, one in enumerate(bundles) if not lot >> place & 1]
                if sum(ballots_in(sheet) for area, sheet in left) > 4:
                    continue
                kept = [one for place, one in enumerate(bundles) if lot >> place & 1]
                choices = [sheets_of(lists_slips(land.hands), ballots_in(sheet)) for area, sheet in left]
                others = [
                    House(land, by_area(land, kept + [(area, sheet) for (area, _), sheet in zip(left, some)])).outcome()
                    for some in itertools.product(*choices)
                ]
                told = settles(land, bundles, lot)
                self.assertIs(told, all(other == now for other in others))
                met[told] += 1
        self.assertGreater(min(met.values()), 40)

    def test_with_more_bundles_it_stays_so(self):
        draw = random.Random(5)
        for _ in range(60):
            land = Land([draw.choice((Pairs, Lists))(3, 1), Pairs(3, 2)], draw.choice((0, 1)))
            bundles = [(draw.randrange(2), any_sheet(draw, 3, 2, draw.choice((3, 20)))) for _ in range(4)]
            told = [settles(land, bundles, lot) for lot in range(16)]
            for lot, other in itertools.product(range(16), repeat=2):
                if lot & other == lot and told[lot]:
                    self.assertTrue(told[other])


class Lots(unittest.TestCase):
    """[9.5]"""

    def test_no_bundles(self):
        for land in (LAND, Land([Pairs(3, 1)]), Land([Lists(3, 4)], 60)):
            told = [ask(land, []) for ask in (least_lots, greatest_open, must_look, fewest)]
            self.assertEqual(told, [[0], [], 0, 0])
            self.assertIs(settles(land, [], 0), True)

    def test_one_bundle(self):
        land = Land([Lists(2, 1)])
        bundles = [(0, [((1,), 5)])]
        told = [ask(land, bundles) for ask in (least_lots, greatest_open, must_look, fewest)]
        self.assertEqual(told, [[1], [0], 1, 1])
        # Nothing hangs on an empty bundle, nor on any where there are as many seats as hands.
        for land, bundles in ((land, [(0, [])]), (Land([Pairs(2, 2)]), bundles)):
            told = [ask(land, bundles) for ask in (least_lots, greatest_open, must_look, fewest)]
            self.assertEqual(told, [[0], [], 0, 0])

    def test_bundles_of_none_of_whose_ballots_anything_hangs(self):
        land = Land([Lists(2, 1), Pairs(2, 2)])
        bundles = [(1, [((1,), 10 ** 9)]), (0, [((1,), 9)]), (1, [((2,), 4)]), (0, []), (0, [((2,), 2)])]
        told = [ask(land, bundles) for ask in (least_lots, greatest_open, must_look, fewest)]
        self.assertEqual(told, [[0b10], [0b11101], 0b10, 0b10])

    def test_any_two_of_three(self):
        # Two bundles of three each settle the seat, whichever they are.
        land = Land([Lists(2, 1)])
        bundles = [(0, [((1,), 3)])] * 3
        told = [ask(land, bundles) for ask in (least_lots, greatest_open, must_look, fewest)]
        self.assertEqual(told, [[0b011, 0b101, 0b110], [0b001, 0b010, 0b100], 0, 0b011])

    def test_the_first_with_the_fewest(self):
        land = Land([Lists(2, 1)])
        bundles = [(0, [((1,), 2)]), (0, [((1,), 2)]), (0, [((1,), 2)]), (0, [((1,), 1)]), (0, [((1,), 9)]), (0, [((1,), 9)])]
        least = plain_lots(land, bundles)[0]
        self.assertEqual(least_lots(land, bundles), least)
        self.assertEqual(fewest(land, bundles), min(least, key=lambda lot: (bin(lot).count("1"), lot)))
        self.assertNotEqual(fewest(land, bundles), least[0])

    def test_all_lots_gone_through(self):
        draw = random.Random(59)
        met = set()
        for _ in range(120):
            hands = draw.choice((1, 2, 3))
            areas = [draw.choice((Lists, Pairs))(hands, draw.randint(1, 2)) for _ in range(draw.randint(1, 3))]
            land = Land(areas, draw.choice((0, 0, 1, 3)), None, draw.choice((None, (1, 5))))
            many = draw.choice((0, 1, 3, 5, 6))
            bundles = drawn_bundles(draw, land, many, draw.choice((1, 9)))
            if draw.random() < 0.6:
                bundles = [(area, [((draw.choice((1, 1, 1, 2)) if hands > 1 else 1,), draw.randint(1, 4))]) for area, _ in bundles]
            least, greatest = plain_lots(land, bundles)
            self.assertEqual(least_lots(land, bundles), least)
            self.assertEqual(greatest_open(land, bundles), greatest)
            common = (1 << many) - 1
            for lot in least:
                common &= lot
            self.assertEqual(must_look(land, bundles), common)
            self.assertEqual(fewest(land, bundles), min(least, key=lambda lot: bin(lot).count("1")))
            # Each least lot has a bundle that a greatest open one lacks; each lot settles just where it has a least one in it.
            self.assertTrue(all(lot & ~one for lot in least for one in greatest))
            for lot in range(1 << many):
                self.assertIs(settles(land, bundles, lot), any(one & lot == one for one in least))
            met.add((len(least), len(greatest)))
        self.assertGreater(len(met), 8)

    def test_what_is_told_is_the_askers_own(self):
        """[0.2]"""
        bundles = [(0, [((1,), 3)]), (0, [((1,), 3)]), (1, [((1, 2), 3)])]
        self.assertTrue(is_told_anew(lambda: least_lots(LAND, bundles)))
        self.assertTrue(is_told_anew(lambda: greatest_open(LAND, bundles)))
        settles(LAND, bundles, 5)
        self.assertEqual(bundles, [(0, [((1,), 3)]), (0, [((1,), 3)]), (1, [((1, 2), 3)])])
