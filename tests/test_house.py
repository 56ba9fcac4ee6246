import random
import unittest

from tests.draws import any_lots, any_sheet, is_told_anew, spoiled, votes_sheet
from tests.test_evening import plain_evening
from wholepoll.evening import evened_by
from wholepoll.house import House
from wholepoll.lands import Land
from wholepoll.lists import Lists
from wholepoll.pairs import Pairs

NORTH = [((1,), 6), ((2,), 3), ((3,), 2), ((4, 1), 1)]
SOUTH = [((1, 2), 2), ((2,), 9), ((4, 2), 4)]
LAND = Land([Lists(3, 4), Pairs(3, 2), Lists(3, 2, [2, 1, 0], (1, 5), 2)], 3, [1, 0, 2], (1, 20), 2)
SHEETS = [NORTH, SOUTH, SOUTH]


def drawn_land(draw, kinds):
    """A land of areas that count by lists, by pairs, or by both."""
    hands = draw.choice((1, 2, 3, 4))
    areas = []
    for _ in range(draw.randint(1, 6)):
        seats, lots = draw.randint(1, 5), any_lots(draw, hands)
        if draw.choice(kinds) is Pairs:
            areas.append(Pairs(hands, seats, lots))
        else:
            areas.append(Lists(hands, seats, lots, draw.choice((None, (1, 5), (1, 2))), draw.randint(1, 3)))
    hurdle = draw.choice((None, (1, 20), (1, 4), (1, 1)))
    return Land(areas, draw.choice((0, 1, 4, 9)), any_lots(draw, hands), hurdle, draw.randint(1, 3))


def drawn_sheets(draw, land):
    return [draw.choice((any_sheet, votes_sheet))(draw, land.hands) for _ in land.areas]


def plain_house(land, sheets):
    """[8.5] All that a House tells, from the areas' ways and evening."""
    by_area = [way.outcome(sheet) for way, sheet in zip(land.areas, sheets)]
    had = [sum(column) for column in zip(*by_area)]
    paper = plain_evening(land, land.votes(sheets), had)
    evened = evened_by(land, paper)
    in_all = [seats + more for seats, more in zip(had, evened)]
    papers = [way.counted(sheet) for way, sheet in zip(land.areas, sheets)]
    return (by_area, evened, (by_area, evened), in_all, (papers, paper))


def told(house):
    return (house.by_area(), house.of_evening(), house.outcome(), house.in_all(), house.paper())


class Told(unittest.TestCase):
    """[8.5]"""

    def test_ordinary(self):
        house = House(LAND, SHEETS)
        self.assertEqual(house.by_area(), [[3, 1, 0], [0, 1, 1], [0, 1, 1]])
        # Votes are 10, 21 and 9, with 2 idle ones; of the land are had 3, 3 and 2 seats.
        self.assertEqual(house.paper()[1], ([10, 21, 9, 2], 3, [
            ([(10, 7), (3, 1), (9, 5)], 1), ([(10, 7), (7, 3), (9, 5)], 1), ([(10, 7), (21, 11), (9, 5)], 1),
        ]))
        self.assertEqual(house.of_evening(), [0, 3, 0])
        self.assertEqual(house.outcome(), ([[3, 1, 0], [0, 1, 1], [0, 1, 1]], [0, 3, 0]))
        self.assertEqual(house.in_all(), [3, 6, 2])
        self.assertEqual(house.paper()[0], [way.counted(sheet) for way, sheet in zip(LAND.areas, SHEETS)])

    def test_lands_by_lists_by_pairs_and_by_both(self):
        draw = random.Random(85)
        for kinds in ((Lists,), (Pairs,), (Lists, Pairs)):
            for _ in range(60):
                land = drawn_land(draw, kinds)
                sheets = drawn_sheets(draw, land)
                self.assertEqual(told(House(land, sheets)), plain_house(land, sheets))

    def test_no_ballots_and_no_evened_seats(self):
        house = House(Land([Lists(2, 3), Pairs(2, 1, [1, 0])], 5), [[], []])
        self.assertEqual(told(house)[:4], ([[0, 0], [0, 1]], [0, 0], ([[0, 0], [0, 1]], [0, 0]), [0, 1]))
        house = House(Land([Lists(2, 3), Pairs(2, 1)]), [[((1,), 1)], [((2,), 1)]])
        self.assertEqual(told(house)[:4], ([[3, 0], [0, 1]], [0, 0], ([[3, 0], [0, 1]], [0, 0]), [3, 1]))

    def test_an_outcome_may_change_while_the_house_stays(self):
        land = Land([Lists(2, 1), Lists(2, 1)], 2)
        one = House(land, [[((1,), 2), ((2,), 1)], [((1,), 1), ((2,), 2)]])
        other = House(land, [[((1,), 1), ((2,), 2)], [((1,), 1), ((2,), 1)]])
        self.assertEqual((one.in_all(), one.outcome()), ([2, 2], ([[1, 0], [0, 1]], [1, 1])))
        self.assertEqual((other.in_all(), other.outcome()), ([2, 2], ([[0, 1], [1, 0]], [1, 1])))


class Led(unittest.TestCase):
    """[8.5]"""

    def test_one_area_has_another_sheet(self):
        house = House(LAND, SHEETS)
        for area in range(3):
            for sheet in ([], NORTH, SOUTH):
                sheets = list(SHEETS)
                sheets[area] = sheet
                self.assertEqual(told(house.led(area, sheet)), plain_house(LAND, sheets))
        self.assertEqual(told(house), plain_house(LAND, SHEETS))

    def test_asked_ahead_or_not(self):
        """What was asked of a house is not mixed up with what is asked of one that was led on from it."""
        for asked in (True, False):
            house = House(LAND, SHEETS)
            if asked:
                told(house)
            other = house.led(1, NORTH)
            if asked:
                told(other)
            third = other.led(0, [])
            fourth = house.led(2, [])
            self.assertEqual(told(fourth), plain_house(LAND, [NORTH, SOUTH, []]))
            self.assertEqual(told(third), plain_house(LAND, [[], NORTH, SOUTH]))
            self.assertEqual(told(other), plain_house(LAND, [NORTH, NORTH, SOUTH]))
            self.assertEqual(told(house), plain_house(LAND, SHEETS))

    def test_led_on_and_on_and_from_an_elder_one(self):
        draw = random.Random(5)
        for _ in range(25):
            land = drawn_land(draw, (Lists, Pairs))
            kept = [(House(land, sheets), sheets) for sheets in [drawn_sheets(draw, land)]]
            for _ in range(8):
                house, sheets = draw.choice(kept)
                area, sheet = draw.randrange(len(sheets)), any_sheet(draw, land.hands)
                if draw.random() < 0.5:
                    told(house)
                newer = sheets[:area] + [sheet] + sheets[area + 1:]
                kept.append((house.led(area, sheet), newer))
            for house, sheets in kept:
                self.assertEqual(told(house), plain_house(land, sheets))


class Own(unittest.TestCase):
    """[0.2]"""

    def test_what_is_handed_in_is_not_changed_nor_kept(self):
        sheets = [list(sheet) for sheet in SHEETS]
        house = House(LAND, sheets)
        newer = list(NORTH)
        other = house.led(1, newer)
        told(house)
        told(other)
        self.assertEqual((sheets, newer), (SHEETS, NORTH))
        house, other = House(LAND, sheets), House(LAND, sheets).led(1, newer)
        spoiled(sheets)
        newer.clear()
        self.assertEqual(told(house), plain_house(LAND, SHEETS))
        self.assertEqual(told(other), plain_house(LAND, [NORTH, NORTH, SOUTH]))
        self.assertEqual(told(house.led(0, [])), plain_house(LAND, [[], SOUTH, SOUTH]))

    def test_what_is_told_is_the_askers_own(self):
        house = House(LAND, SHEETS)
        for ask in (house.by_area, house.of_evening, house.outcome, house.in_all, house.paper):
            self.assertTrue(is_told_anew(ask))
        self.assertTrue(is_told_anew(lambda: told(house)))
        for spoil in told(house):
            spoiled(spoil)
        self.assertEqual(told(house), plain_house(LAND, SHEETS))
        self.assertEqual(told(house.led(0, NORTH)), plain_house(LAND, SHEETS))
