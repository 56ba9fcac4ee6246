import itertools
import random
import unittest

from tests.draws import is_told_anew, sheets_of
from tests.test_listmargin import lists_slips
from tests.test_power import plain_wins
from tests.test_stillland import LAND, SEEN, drawn_land, plain_outcomes
from wholepoll.house import House
from wholepoll.lands import Land
from wholepoll.lists import Lists
from wholepoll.majorities import can_win, open_areas, sure_majorities
from wholepoll.sheets import joined


def plain_sure(land, houses):
    """[10.4]"""
    groups = [group for group in range(1 << land.hands) if all(plain_wins(house, group) for house in houses)]
    return [group for group in groups if not any(one & group == one != group for one in groups)]


def plain_open_areas(land, seen, unseen):
    """[10.4] A going through of all unseen ballots, the others' first."""
    choices = [sheets_of(lists_slips(land.hands), many) for many in unseen]
    found = []
    for area in range(len(land.areas)):
        for others in itertools.product(*(choices[:area] + choices[area + 1:])):
            told = set()
            for own in choices[area]:
                some = list(others[:area]) + [own] + list(others[area:])
                told.add(repr(House(land, [joined(pair) for pair in zip(seen, some)]).outcome()))
            if len(told) > 1:
                found.append(area)
                break
    return found


class Majorities(unittest.TestCase):
    """[10.4]"""

    def all_right(self, land, seen, unseen):
        houses = set(plain_outcomes(land, seen, unseen).values())
        self.assertEqual(sure_majorities(land, seen, unseen), plain_sure(land, houses))
        for group in range(1 << land.hands):
            self.assertIs(can_win(land, seen, unseen, group), any(plain_wins(house, group) for house in houses))
        self.assertEqual(open_areas(land, seen, unseen), plain_open_areas(land, seen, unseen))

    def test_nothing_unseen(self):
        self.all_right(LAND, SEEN, [0, 0])
        house = House(LAND, SEEN).in_all()
        self.assertEqual(house, [3, 3, 1])
        self.assertEqual(sure_majorities(LAND, SEEN, [0, 0]), [0b011, 0b101, 0b110])
        self.assertEqual(open_areas(LAND, SEEN, [0, 0]), [])
        self.assertIs(can_win(LAND, SEEN, [0, 0], 0b010), False)
        self.assertIs(can_win(LAND, SEEN, [0, 0], 0b011), True)
        self.assertIs(can_win(LAND, SEEN, [0, 0], 0), False)

    def test_no_group_wins_in_all_houses(self):
        # With no ballot seen, nobody may have a seat at all.
        land = Land([Lists(2, 3)])
        self.assertEqual(sure_majorities(land, [[]], [2]), [])
        self.assertEqual([can_win(land, [[]], [2], group) for group in range(4)], [False, True, True, True])
        self.assertEqual([can_win(land, [[]], [0], group) for group in range(4)], [False] * 4)
        self.all_right(land, [[]], [2])

    def test_all_together_alone(self):
        land = Land([Lists(2, 2)])
        seen = [[((1,), 3), ((2,), 3)]]
        self.assertEqual(sure_majorities(land, seen, [1]), [3])
        self.all_right(land, seen, [1])

    def test_an_area_of_whose_ballots_nothing_hangs(self):
        land = Land([Lists(2, 1), Lists(2, 1)])
        seen = [[((1,), 9)], [((1,), 2), ((2,), 2)]]
        self.assertEqual(open_areas(land, seen, [3, 1]), [1])
        self.assertEqual(open_areas(land, seen, [3, 0]), [])
        self.all_right(land, seen, [3, 1])

    def test_nothing_hangs_alone_but_does_together(self):
        # The one evened seat turns only where both ballots go to hand 1.
        land = Land([Lists(2, 1), Lists(2, 1)], 1, [0, 1])
        seen = [[((1,), 5)], [((2,), 8)]]
        for evened, unseen in ((1, [1, 1]), (1, [0, 1]), (1, [2, 2])):
            self.all_right(land, seen, unseen)
        found = self.together(land)
        self.assertIsNotNone(found)
        seen, unseen = found
        self.all_right(land, seen, unseen)
        self.assertEqual(open_areas(land, seen, unseen), [0, 1])
        for alone in ([unseen[0], 0], [0, unseen[1]]):
            self.assertEqual(len(plain_outcomes(land, seen, alone)), 1)
            self.assertEqual(open_areas(land, seen, alone), [])

    def together(self, land):
        """Votes with which the ballot of neither area alone turns anything, but those of both do."""
        for one, other in itertools.product(range(3, 12), repeat=2):
            seen = [[((1,), one)], [((2,), other)]]
            if len(plain_outcomes(land, seen, [1, 1])) > 1:
                if len(plain_outcomes(land, seen, [1, 0])) == len(plain_outcomes(land, seen, [0, 1])) == 1:
                    return seen, [1, 1]
        return None

    def test_against_all_unseen_ballots(self):
        draw = random.Random(104)
        met = {}
        for _ in range(60):
            land, seen, unseen = drawn_land(draw, 4)
            if len(land.areas) > 3 and land.hands > 2:
                unseen = [min(1, many) for many in unseen]
            self.all_right(land, seen, unseen)
            kind = (len(open_areas(land, seen, unseen)) > 0, len(sure_majorities(land, seen, unseen)) > 0)
            met[kind] = met.get(kind, 0) + 1
        self.assertGreater(len(met), 2)

    def test_what_is_told_is_the_askers_own(self):
        """[0.2]"""
        seen, unseen = [list(sheet) for sheet in SEEN], [1, 1]
        self.assertTrue(is_told_anew(lambda: sure_majorities(LAND, seen, unseen)))
        self.assertTrue(is_told_anew(lambda: open_areas(LAND, seen, unseen)))
        can_win(LAND, seen, unseen, 1)
        self.assertEqual((seen, unseen), (SEEN, [1, 1]))
