import itertools
import random
import unittest

from tests.draws import any_lots, is_told_anew, sheets_of, votes_sheet
from tests.test_listmargin import lists_slips
from wholepoll.house import House
from wholepoll.landmargin import LandMargin
from wholepoll.lands import Land
from wholepoll.lists import Lists
from wholepoll.sheets import ballots_in, is_sheet, joined
from wholepoll.stillland import between, houses, is_settled, outcomes, sheets_for

HURDLES = (None, (1, 20), (1, 5), (1, 3), (1, 2))
LAND = Land([Lists(3, 2), Lists(3, 3)], 2)
SEEN = [[((1,), 4), ((2,), 3)], [((1, 2), 2), ((2,), 2), ((4,), 2)]]


def as_tuples(outcome):
    by_area, evened = outcome
    return (tuple(tuple(one) for one in by_area), tuple(evened))


def plain_outcomes(land, seen, unseen):
    """[10.2] The dict from all outcomes to the house of each: a going through of all unseen ballots."""
    choices = [sheets_of(lists_slips(land.hands), many) for many in unseen]
    found = {}
    for some in itertools.product(*choices):
        house = House(land, [joined(pair) for pair in zip(seen, some)])
        found[as_tuples(house.outcome())] = tuple(house.in_all())
    return found


def drawn_land(draw, most=6):
    hands = draw.choice((1, 2, 3, 3, 4))
    areas = []
    for _ in range(draw.choice((1, 2, 3, 6))):
        areas.append(Lists(hands, draw.choice((1, 2, 5)), any_lots(draw, hands), draw.choice(HURDLES), draw.randint(1, 2)))
    land = Land(areas, draw.choice((0, 1, 4)), any_lots(draw, hands), draw.choice(HURDLES), draw.randint(1, 2))
    left = min(most, 3 if hands == 4 else 6)
    unseen = []
    for _ in areas:
        unseen.append(draw.randint(0, left))
        left -= unseen[-1]
    draw.shuffle(unseen)
    return land, [votes_sheet(draw, hands, draw.choice((2, 9))) for _ in areas], unseen


class Outcomes(unittest.TestCase):
    """[10.2]"""

    def all_right(self, land, seen, unseen):
        due = plain_outcomes(land, seen, unseen)
        told = outcomes(land, seen, unseen)
        self.assertEqual(told, sorted(due))
        self.assertEqual(houses(land, seen, unseen), sorted(set(due.values())))
        self.assertEqual(between(land, seen, unseen), [(min(column), max(column)) for column in zip(*due.values())])
        self.assertIs(is_settled(land, seen, unseen), len(due) == 1)
        return due

    def brought(self, land, seen, unseen, outcome):
        """The sheets told for an outcome bring it."""
        sheets = sheets_for(land, seen, unseen, outcome)
        self.assertEqual([ballots_in(sheet) for sheet in sheets], unseen)
        self.assertTrue(all(is_sheet(sheet, land.hands) for sheet in sheets))
        house = House(land, [joined(pair) for pair in zip(seen, sheets)])
        self.assertEqual(as_tuples(house.outcome()), outcome)

    def test_ordinary(self):
        due = self.all_right(LAND, SEEN, [1, 2])
        self.assertGreater(len(due), 3)
        for outcome in due:
            self.brought(LAND, SEEN, [1, 2], outcome)

    def test_nothing_unseen(self):
        outcome = as_tuples(House(LAND, SEEN).outcome())
        self.assertEqual(outcomes(LAND, SEEN, [0, 0]), [outcome])
        self.assertEqual(houses(LAND, SEEN, [0, 0]), [tuple(House(LAND, SEEN).in_all())])
        self.assertEqual(between(LAND, SEEN, [0, 0]), [(seats, seats) for seats in House(LAND, SEEN).in_all()])
        self.assertIs(is_settled(LAND, SEEN, [0, 0]), True)
        self.assertEqual(sheets_for(LAND, SEEN, [0, 0], outcome), [[], []])

    def test_others_that_cannot_be(self):
        outcome = as_tuples(House(LAND, SEEN).outcome())
        by_area, evened = outcome
        for other in (
            (by_area, (9, 0, 0)), (by_area, (0, 0, 0)), (by_area[::-1], evened), (by_area[:1], evened), ((), ()),
            (((2, 0, 1), by_area[1]), evened), (((0, 0, 2), (0, 0, 3)), (0, 0, 2)), (by_area, evened[:2]),
        ):
            self.assertIsNone(sheets_for(LAND, SEEN, [1, 1], other))
            self.assertIsNone(sheets_for(LAND, SEEN, [0, 0], other))

    def test_against_all_unseen_ballots(self):
        draw = random.Random(102)
        met = {True: 0, False: 0}
        for _ in range(70):
            land, seen, unseen = drawn_land(draw, 4)
            due = self.all_right(land, seen, unseen)
            for outcome in draw.sample(sorted(due), min(4, len(due))):
                self.brought(land, seen, unseen, outcome)
            met[len(due) == 1] += 1
        self.assertGreater(min(met.values()), 5)

    def test_six_areas_and_six_ballots(self):
        draw = random.Random(106)
        for hands, unseen in ((3, [1] * 6), (3, [6, 0, 0, 0, 0, 0]), (4, [1, 0, 1, 0, 0, 1]), (4, [0, 3, 0, 0, 0, 0])):
            land = Land([Lists(hands, 2) for _ in range(6)], 9, None, (1, 20))
            seen = [votes_sheet(draw, hands, 9) for _ in range(6)]
            for outcome in draw.sample(sorted(self.all_right(land, seen, unseen)), 1):
                self.brought(land, seen, unseen, outcome)

    def test_settled_just_where_it_is_held(self):
        """[9.4] The same is told by the margin of the land."""
        draw = random.Random(94)
        met = {True: 0, False: 0}
        for _ in range(120):
            land, seen, unseen = drawn_land(draw, 2)
            known = [joined([sheet, [((), many)] if many else []]) for sheet, many in zip(seen, unseen)]
            told = is_settled(land, seen, unseen)
            self.assertIs(told, LandMargin(land).held(seen, unseen, known))
            met[told] += 1
        self.assertGreater(min(met.values()), 20)

    def test_one_house_of_several_outcomes(self):
        """A seat lost in an area may come back by evening."""
        land = Land([Lists(2, 1), Lists(2, 1)], 2)
        seen = [[((1,), 2), ((2,), 2)], [((1,), 2), ((2,), 3)]]
        due = self.all_right(land, seen, [1, 0])
        self.assertEqual((len(due), set(due.values())), (2, {(2, 2)}))
        self.assertIs(is_settled(land, seen, [1, 0]), False)

    def test_what_is_told_is_the_askers_own(self):
        """[0.2]"""
        seen, unseen = [list(sheet) for sheet in SEEN], [1, 1]
        for ask in (outcomes, houses, between):
            self.assertTrue(is_told_anew(lambda: ask(LAND, seen, unseen)))
        outcome = outcomes(LAND, seen, unseen)[0]
        self.assertTrue(is_told_anew(lambda: sheets_for(LAND, seen, unseen, outcome)))
        self.assertEqual((seen, unseen), (SEEN, [1, 1]))
