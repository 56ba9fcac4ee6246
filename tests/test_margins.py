import random
import unittest

from tests.draws import any_lots, any_sheet, is_told_anew
from wholepoll.margins import Margin
from wholepoll.pairmargin import PairsMargin
from wholepoll.pairs import Pairs
from wholepoll.sheets import ballots_in, changed
from wholepoll.shifts import free_for, shift
from wholepoll.ways import Way

SHEET = [((1, 2), 4), ((2, 4), 3), ((4,), 2)]


def plain_high(margin, sheet):
    """[7.4] To the letter: the least hi and the first pair that has it."""
    outcome = margin.way.outcome(sheet)
    found = []
    for x in range(margin.way.hands):
        for y in range(margin.way.hands):
            if outcome[x] > 0 and outcome[y] == 0:
                slip = margin.slip_for(x, y)
                lo, hi = 0, free_for(sheet, slip)
                while hi - lo > 1:
                    m = (lo + hi) // 2
                    if margin.way.outcome(changed(sheet, shift(sheet, x, y, slip, m))) != outcome:
                        hi = m
                    else:
                        lo = m
                found.append((hi, (x, y)))
    least = min(hi for hi, pair in found)
    return least, [pair for hi, pair in found if hi == least][0]


class Restless(Way):
    """A way whose outcomes go to and fro as ballots are changed, so that halving finds unlike numbers."""

    def counted(self, sheet):
        worth = sum((len(slip) + 1) * (sum(slip) + 2) * number for slip, number in sheet)
        return worth * 7919 // 5 % 11

    def told_by(self, paper):
        return [int(hand != self.hands - 1 and (paper + hand) % 3 > 0) for hand in range(self.hands)]


class Knowing(Margin):
    """A margin beneath, by whose own words `told`, `high` and `held` must go."""

    def possible(self, sheet):
        return ballots_in(sheet) != 7

    def least(self, sheet):
        return (ballots_in(sheet) // 2, ["shown"])

    def high(self, sheet):
        return (8, ["so"], (1, 0))


class Lifting(Margin):
    def slip_for(self, x, y):
        return (1 << y, 1 << x)


class ByItself(unittest.TestCase):
    """[7.2]"""

    def test_possible(self):
        for way, due in ((Pairs(3, 1), True), (Pairs(3, 2), True), (Pairs(3, 3), False), (Pairs(3, 4), False), (Way(2, 1), True)):
            margin = Margin(way)
            self.assertIs(margin.way, way)
            self.assertIs(margin.possible(SHEET), due)
            self.assertIs(margin.possible([((), 1)]), due)
            self.assertIs(margin.possible([]), False)
        self.assertIs(Margin(Pairs(1, 1)).possible([((1,), 1)]), False)

    def test_least_and_shows(self):
        margin = Margin(Pairs(3, 1))
        self.assertEqual(margin.least(SHEET), (1, []))
        self.assertTrue(is_told_anew(lambda: [margin.least(SHEET)]))
        for paper in ([], [(0, 1, [0, 1], 2, 1)], None):
            for low in (1, 0, -1, -10 ** 60):
                self.assertIs(margin.shows(SHEET, low, paper), True)
            for low in (2, 10 ** 60):
                self.assertIs(margin.shows(SHEET, low, paper), False)

    def test_told_none(self):
        for way, sheet in ((Pairs(3, 1), []), (Pairs(3, 3), SHEET), (Pairs(3, 60), SHEET), (Pairs(1, 1), [((1,), 2)]), (Way(3, 1), [])):
            self.assertIsNone(Margin(way).told(sheet))
            if way.hands > 1 and isinstance(way, Pairs):
                self.assertIsNone(PairsMargin(way).told(sheet))

    def test_slip_for(self):
        self.assertEqual(Margin(Pairs(4, 1)).slip_for(0, 3), (8,))
        self.assertEqual(Margin(Pairs(2, 1)).slip_for(1, 0), (1,))

    def test_told_goes_by_the_margin_itself(self):
        margin = Knowing(Pairs(3, 1))
        self.assertEqual(margin.told(SHEET), (4, 8, ["shown"], ["so"]))
        self.assertIsNone(margin.told([((), 7)]))
        self.assertEqual(margin.told([]), (0, 8, ["shown"], ["so"]))


class Held(unittest.TestCase):
    """[7.3]"""

    def test_by_itself(self):
        margin = Margin(Pairs(3, 1))
        self.assertIs(margin.held(SHEET, 0, SHEET), True)
        self.assertIs(margin.held(SHEET[1:], 4, SHEET), False)
        self.assertIs(margin.held([((1, 2), 3)] + SHEET[1:], 1, SHEET), False)
        self.assertIs(margin.held([], 0, []), True)
        for way in (Pairs(3, 3), Pairs(3, 4)):
            self.assertIs(Margin(way).held([], 9, SHEET), True)

    def test_by_possible_and_least_of_the_margin_itself(self):
        margin = Knowing(Pairs(3, 1))
        for unseen, due in ((0, True), (1, True), (3, True), (4, False), (9, False)):
            self.assertIs(margin.held([], unseen, SHEET), due)
        self.assertIs(margin.held([], 7, [((), 7)]), True)
        self.assertIs(margin.held([], 0, [((), 1)]), True)
        self.assertIs(margin.held([], 1, [((), 1)]), False)


class High(unittest.TestCase):
    """[7.4]"""

    def held_to_the_letter(self, margin, sheet):
        told, change, pair = margin.high(sheet)
        self.assertEqual((told, pair), plain_high(margin, sheet))
        self.assertEqual(sum(number for old, new, number in change), told)
        outcome = margin.way.outcome(sheet)
        self.assertNotEqual(margin.way.outcome(changed(sheet, change)), outcome)
        x, y = pair
        slip = margin.slip_for(x, y)
        after = changed(sheet, shift(sheet, x, y, slip, told))
        self.assertNotEqual(margin.way.outcome(after), outcome)
        if told > 1:
            fewer = changed(sheet, shift(sheet, x, y, slip, told - 1))
            self.assertEqual(margin.way.outcome(fewer), outcome)
        self.assertTrue(is_told_anew(lambda: margin.high(sheet)))

    def test_ordinary(self):
        # With three of hand 0's ballots for 1, 2 leads 0 by 2, so 1 beats 0 over 2; with two it does not.
        sheet = [((1, 2), 9), ((2, 4), 3), ((4,), 2)]
        margin = PairsMargin(Pairs(3, 1))
        self.assertEqual(margin.way.outcome(sheet), [1, 0, 0])
        self.assertEqual(margin.high(sheet), (3, [((1, 2), (2, 4), 3)], (0, 1)))
        self.assertEqual(margin.least(sheet)[0], 3)
        self.held_to_the_letter(margin, sheet)

    def test_the_first_of_several_pairs(self):
        # Hands 2 and 3 have the seats; each of the four pairs needs as many ballots.
        sheet = [((12, 3), 6)]
        for lots, due in ((None, 3), ([3, 2, 1, 0], 4)):
            way = Pairs(4, 2, lots)
            told = Margin(way).high(sheet)
            self.assertEqual((way.outcome(sheet), told[0], told[2]), ([0, 0, 1, 1], due, (2, 0)))
            self.held_to_the_letter(Margin(way), sheet)
            self.held_to_the_letter(PairsMargin(way), sheet)
        # Here a later pair needs fewer than the first one: two ballots of hand 1 leave 0 level with 2, but not 1.
        uneven = [((1,), 1), ((2,), 1), ((2, 1), 2)]
        self.held_to_the_letter(Margin(Pairs(3, 2)), uneven)
        self.assertEqual(Margin(Pairs(3, 2)).high(uneven), (2, [((2,), (4,), 1), ((2, 1), (4,), 1)], (1, 2)))

    def test_one_ballot(self):
        for sheet in ([((1,), 1)], [((), 1)]):
            for margin in (Margin(Pairs(3, 1)), PairsMargin(Pairs(3, 1)), PairsMargin(Pairs(2, 1))):
                self.assertEqual(margin.high(sheet)[0], 1)
                self.held_to_the_letter(margin, sheet)

    def test_drawn(self):
        draw = random.Random(74)
        for _ in range(120):
            hands = draw.choice((2, 3, 4, 5))
            way = Pairs(hands, draw.randint(1, hands - 1), any_lots(draw, hands))
            sheet = any_sheet(draw, hands, 6, draw.choice((3, 30, 10 ** 9)))
            for margin in (Margin(way), PairsMargin(way), Lifting(way)):
                if margin.possible(sheet):
                    if type(margin) is Lifting:
                        told, _, pair = margin.high(sheet)
                        self.assertEqual((told, pair), plain_high(margin, sheet))
                    else:
                        self.held_to_the_letter(margin, sheet)

    def test_outcomes_that_go_to_and_fro(self):
        draw = random.Random(7)
        met = 0
        for _ in range(400):
            margin = Margin(Restless(draw.choice((3, 4, 5)), 1))
            sheet = any_sheet(draw, margin.way.hands, 4, draw.choice((9, 200)))
            if sheet and 0 < sum(margin.way.outcome(sheet)):
                told, change, pair = margin.high(sheet)
                self.assertEqual((told, pair), plain_high(margin, sheet))
                self.assertEqual(change, shift(sheet, *pair, margin.slip_for(*pair), told))
                met += 1
        self.assertGreater(met, 100)

    def test_where_no_other_outcome_is_possible(self):
        """Nothing is promised of what is told then; it is told, all the same."""
        for margin in (Margin(Pairs(3, 3)), PairsMargin(Pairs(3, 3)), PairsMargin(Pairs(3, 1))):
            sheet = SHEET if margin.way.seats == 3 else []
            self.assertEqual((len(margin.least(sheet)), len(margin.high(sheet))), (2, 3))

    def test_told(self):
        """[7.2]"""
        for margin in (Margin(Pairs(3, 2)), PairsMargin(Pairs(3, 2)), PairsMargin(Pairs(3, 1, [2, 1, 0]))):
            low, paper = margin.least(SHEET)
            high, change, _ = margin.high(SHEET)
            self.assertEqual(margin.told(SHEET), (low, high, paper, change))
            self.assertLessEqual(low, high)
            self.assertTrue(is_told_anew(lambda: margin.told(SHEET)))

    def test_what_is_handed_in_stays(self):
        """[0.2]"""
        sheet = list(SHEET)
        PairsMargin(Pairs(3, 1)).told(sheet)
        Margin(Pairs(3, 1)).held(sheet, 0, sheet)
        self.assertEqual(sheet, SHEET)
