import copy
import random
import unittest

from tests.draws import any_sheet, votes_sheet
from tests.spoils import HUGE, spoilt, spoilt_list
from tests.test_house import LAND, NORTH, SHEETS, SOUTH, drawn_land, drawn_sheets, plain_house
from wholepoll.evening import evening
from wholepoll.house import House
from wholepoll.housecheck import HouseChecker
from wholepoll.lands import Land
from wholepoll.listcheck import ListsChecker
from wholepoll.lists import Lists
from wholepoll.paircheck import PairsChecker
from wholepoll.pairs import Pairs

BY_LISTS = Land([Lists(3, 2), Lists(3, 1, [2, 1, 0], (1, 3))], 2, [1, 0, 2], (1, 8))
BY_PAIRS = Land([Pairs(3, 1), Pairs(3, 2, [2, 0, 1])], 2, None, (1, 20), 2)
BY_BOTH = Land([Pairs(3, 1), Lists(3, 2)], 1)


def plain_right(land, sheets, paper):
    """[8.6]"""
    papers, of_evening = paper
    if len(papers) != len(land.areas):
        return False
    had = [0] * land.hands
    for way, sheet, one in zip(land.areas, sheets, papers):
        checker = PairsChecker(way) if isinstance(way, Pairs) else ListsChecker(way)
        if not checker.right(sheet, one):
            return False
        had = [seats + more for seats, more in zip(had, way.told_by(one))]
    return of_evening == evening(land, land.votes(sheets), had)


class Right(unittest.TestCase):
    """[8.6]"""

    def test_the_very_paper_of_a_house(self):
        draw = random.Random(86)
        for kinds in ((Lists,), (Pairs,), (Lists, Pairs)):
            for _ in range(30):
                land = drawn_land(draw, kinds)
                sheets = drawn_sheets(draw, land)
                house, checker = House(land, sheets), HouseChecker(land)
                self.assertIs(checker.right(sheets, house.paper()), True)
                self.assertIs(checker.right(sheets, copy.deepcopy(house.paper())), True)
                self.assertIs(checker.passes(sheets, house.paper(), house.outcome()), True)

    def test_papers_with_one_thing_otherwise(self):
        # In an area by pairs other ways and cuts that show the same are right, too.
        for land, sheets, other_shown in (
            (BY_LISTS, [NORTH, SOUTH], False), (BY_PAIRS, [NORTH, SOUTH], False), (BY_BOTH, [NORTH, SOUTH], False),
            (BY_PAIRS, [[], SOUTH], True), (BY_BOTH, [[], SOUTH], True),
        ):
            paper, checker, outcome = House(land, sheets).paper(), HouseChecker(land), House(land, sheets).outcome()
            met = {True: 0, False: 0}
            for other in spoilt(paper):
                told = checker.right(sheets, other)
                self.assertIs(told, plain_right(land, sheets, other), other)
                self.assertIs(checker.passes(sheets, other, outcome), told)
                met[told] += 1
            self.assertGreater(met[False], 300)
            self.assertIs(met[True] > 0, other_shown)

    def test_the_paper_of_evening_otherwise(self):
        for land in (BY_LISTS, BY_PAIRS, BY_BOTH):
            papers, of_evening = House(land, [NORTH, SOUTH]).paper()
            self.assertTrue(of_evening[2])
            for other in spoilt(of_evening):
                self.assertIs(HouseChecker(land).right([NORTH, SOUTH], (papers, other)), False, other)

    def test_evening_of_other_seats(self):
        """An evening that begins with other seats than the papers show is not right."""
        papers, of_evening = House(BY_LISTS, [NORTH, SOUTH]).paper()
        votes, checker = BY_LISTS.votes([NORTH, SOUTH]), HouseChecker(BY_LISTS)
        for had in ([0, 0, 0], [9, 0, 0], [3, 0, 0], [0, 9, 9]):
            other = evening(BY_LISTS, votes, had)
            self.assertNotEqual(other, of_evening)
            self.assertIs(checker.right([NORTH, SOUTH], (papers, other)), False)

    def test_too_few_and_too_many_areas(self):
        papers, of_evening = House(LAND, SHEETS).paper()
        checker = HouseChecker(LAND)
        self.assertIs(checker.right(SHEETS, (papers, of_evening)), True)
        for other in ([], papers[:1], papers[:2], papers[1:], papers + papers[:1], papers + papers, papers[::-1],
                      [papers[1], papers[0], papers[2]], [papers[0], papers[0], papers[2]], [papers[1]] * 3):
            self.assertIs(checker.right(SHEETS, (other, of_evening)), False)
            self.assertIs(checker.passes(SHEETS, (other, of_evening), House(LAND, SHEETS).outcome()), False)
        alone = Land([Pairs(3, 1)])
        self.assertIs(HouseChecker(alone).right([NORTH], ([], House(alone, [NORTH]).paper()[1])), False)

    def test_papers_of_other_sheets(self):
        for land in (BY_LISTS, BY_PAIRS, BY_BOTH):
            checker = HouseChecker(land)
            for sheets in ([SOUTH, NORTH], [NORTH, NORTH], [[], SOUTH], [NORTH, SOUTH[1:]], [[], []]):
                self.assertIs(checker.right([NORTH, SOUTH], House(land, sheets).paper()), False)
                self.assertIs(checker.right(sheets, House(land, [NORTH, SOUTH]).paper()), False)
                self.assertIs(checker.right(sheets, House(land, sheets).paper()), True)

    def test_papers_of_other_lands(self):
        checker = HouseChecker(BY_LISTS)
        for evened, lots, hurdle, step in ((3, [1, 0, 2], (1, 8), 1), (2, None, (1, 4), 1), (2, [1, 0, 2], (1, 8), 2)):
            other = Land(BY_LISTS.areas, evened, lots, hurdle, step)
            self.assertIs(checker.right([NORTH, SOUTH], House(other, [NORTH, SOUTH]).paper()), False)


class Passes(unittest.TestCase):
    """[8.6]"""

    def test_outcomes_not_shown(self):
        for land in (BY_LISTS, BY_PAIRS, BY_BOTH):
            house, checker = House(land, [NORTH, SOUTH]), HouseChecker(land)
            by_area, evened = house.outcome()
            others = [(other, evened) for other in spoilt_list(by_area)]
            others += [(by_area, other) for other in spoilt_list(evened)] + [([], []), ([[]], evened), (by_area, [HUGE])]
            for outcome in others:
                self.assertIs(checker.passes([NORTH, SOUTH], house.paper(), outcome), False, outcome)
            self.assertIs(checker.passes([NORTH, SOUTH], house.paper(), (by_area, evened)), True)

    def test_nobody_takes_part(self):
        land = Land([Lists(2, 3), Pairs(2, 1)], 4, None, (1, 2))
        checker, house = HouseChecker(land), House(land, [[], []])
        self.assertIs(checker.passes([[], []], house.paper(), ([[0, 0], [1, 0]], [0, 0])), True)
        self.assertEqual(house.paper()[1], ([0, 0, 0], 1, []))
        for other in (([0, 0, 0], 1, [([None, None], 0)]), ([0, 0, 0], 0, []), ([], 1, []), ([0, 0, 0], 1, [([], 0)])):
            self.assertIs(checker.right([[], []], (house.paper()[0], other)), False)

    def test_drawn(self):
        draw = random.Random(6)
        for _ in range(30):
            land = drawn_land(draw, (Lists, Pairs))
            sheets = drawn_sheets(draw, land)
            papers, outcome = House(land, sheets).paper(), plain_house(land, sheets)[2]
            other = [draw.choice((any_sheet, votes_sheet))(draw, land.hands) for _ in land.areas]
            self.assertIs(HouseChecker(land).passes(sheets, papers, outcome), True)
            due = House(land, other).outcome() == outcome
            self.assertIs(HouseChecker(land).passes(other, House(land, other).paper(), outcome), due)

    def test_what_is_handed_in_stays(self):
        """[0.2]"""
        sheets, paper = copy.deepcopy(SHEETS), House(LAND, SHEETS).paper()
        kept, outcome = copy.deepcopy(paper), House(LAND, SHEETS).outcome()
        HouseChecker(LAND).passes(sheets, paper, outcome)
        self.assertEqual((sheets, paper, outcome), (SHEETS, kept, House(LAND, SHEETS).outcome()))
