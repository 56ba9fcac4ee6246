import copy
import itertools
import random
import unittest

from tests.draws import all_slips, any_lots, any_sheet, is_told_anew, sheets_from, sheets_of
from tests.test_strong import all_ways, links_of, plain_strength
from wholepoll.pairmargin import PairsMargin
from wholepoll.pairs import Pairs
from wholepoll.sheets import ballots_in, changed, joined
from wholepoll.strong import leads_of, overs

HUGE = 10 ** 60 - 1
WAY = Pairs(4, 2, [2, 0, 1, 3])
SHEET = [((1, 2, 4), 9), ((2, 4, 1), 7), ((4, 1, 2, 8), 6), ((8, 3), 3)]


def leads_in(sheet, way):
    return leads_of(overs(sheet, way.hands))


def pairs_of(sheet, way):
    outcome = way.outcome(sheet)
    return [(x, y) for x in range(way.hands) for y in range(way.hands) if outcome[x] and not outcome[y]]


def plain_need(way, x, y, first, second):
    """[7.12]"""
    need = 1
    while not (second + 2 * need > first - 2 * need or (way.ahead(y, x) and second + 2 * need == first - 2 * need)):
        need += 1
    return need


def cut_links(leads, cut):
    inside = [hand for hand in range(len(leads)) if cut >> hand & 1]
    return [leads[one][other] for one in inside for other in range(len(leads)) if other not in inside]


def plain_shows(sheet, low, paper, way):
    """[7.14]"""
    leads = leads_in(sheet, way)
    if [row[:2] for row in paper] != pairs_of(sheet, way):
        return False
    for x, y, road, cut, need in paper:
        if road not in all_ways(way.hands, x, y) or not 0 <= cut < 1 << way.hands or cut >> x & 1 or not cut >> y & 1:
            return False
        if need != plain_need(way, x, y, min(links_of(leads, road)), max(cut_links(leads, cut))) or need < low:
            return False
    return True


def plain_held(seen, unseen, known, way):
    """[7.15]"""
    if unseen == 0 or not known or way.hands <= way.seats:
        return True
    told = plain_strength(leads_in(seen, way))
    for x, y in pairs_of(known, way):
        first, second = told[x][y] - unseen, told[y][x] + unseen
        if not (second < first or (way.ahead(x, y) and second == first)):
            return False
    return True


def with_row(paper, at, place, thing):
    rows = copy.deepcopy(paper)
    rows[at] = rows[at][:place] + (thing,) + rows[at][place + 1:]
    return rows


class SlipFor(unittest.TestCase):
    """[7.11]"""

    def test_slip_for(self):
        margin = PairsMargin(Pairs(4, 1))
        self.assertIs(margin.way.hands, 4)
        self.assertEqual(margin.slip_for(0, 3), (8, 6))
        self.assertEqual(margin.slip_for(3, 0), (1, 6))
        self.assertEqual(PairsMargin(Pairs(12, 1)).slip_for(0, 1), (2, 4092))
        self.assertEqual(PairsMargin(Pairs(3, 1)).slip_for(1, 0), (1, 4))
        self.assertEqual(PairsMargin(Pairs(2, 1)).slip_for(0, 1), (2,))
        self.assertEqual(PairsMargin(Pairs(2, 1)).slip_for(1, 0), (1,))

    def test_possible(self):
        """[7.2]"""
        self.assertIs(PairsMargin(Pairs(2, 1)).possible([((), 1)]), True)
        self.assertIs(PairsMargin(Pairs(2, 2)).possible([((), 1)]), False)
        self.assertIs(PairsMargin(Pairs(2, 1)).possible([]), False)
        self.assertIsNone(PairsMargin(Pairs(2, 2)).told([((), 1)]))
        self.assertIsNone(PairsMargin(Pairs(2, 1)).told([]))


class Least(unittest.TestCase):
    """[7.12] [7.13]"""

    def test_needs_where_the_lots_part(self):
        # A lead of 2 is gone with one ballot otherwise; then the lots part.
        for lead, ahead, behind in ((1, 1, 1), (2, 2, 1), (3, 2, 2), (4, 3, 2), (5, 3, 3), (8, 5, 4), (9, 5, 5)):
            sheet = [((1,), lead)]
            for lots, need in (([0, 1], ahead), ([1, 0], behind)):
                low, paper = PairsMargin(Pairs(2, 1, lots)).least(sheet)
                self.assertEqual((low, paper), (need, [(0, 1, [0, 1], 2, need)]))
        even = [((), 5)]
        self.assertEqual(PairsMargin(Pairs(2, 1)).least(even), (1, [(0, 1, [0, 1], 2, 1)]))

    def test_two_hands(self):
        """For two hands and one seat low and high are the same, and just the fewest that must be others."""
        slips = all_slips(2)
        for ballots in (1, 2, 3, 4, 5):
            for sheet in sheets_of(slips, ballots):
                for lots in ([0, 1], [1, 0]):
                    way = Pairs(2, 1, lots)
                    margin = PairsMargin(way)
                    low, high, paper, change = margin.told(sheet)
                    self.assertEqual(low, high)
                    self.assertNotEqual(way.outcome(changed(sheet, change)), way.outcome(sheet))
                    if ballots < 4:
                        others = sheets_from(sheet, slips, low)
                        least = min(many for other, many in others if way.outcome(other) != way.outcome(sheet))
                        self.assertEqual(least, low)

    def test_no_change_of_fewer(self):
        draw = random.Random(712)
        slips = all_slips(3)
        met = 0
        for _ in range(80):
            way = Pairs(3, draw.choice((1, 2)), any_lots(draw, 3))
            sheet = any_sheet(draw, 3, 3, 5)
            if sheet:
                low = PairsMargin(way).least(sheet)[0]
                outcome = way.outcome(sheet)
                met += low > 1
                for other, many in sheets_from(sheet, slips, min(low - 1, 2)):
                    self.assertEqual(way.outcome(other), outcome)
        self.assertGreater(met, 15)

    def test_drawn(self):
        draw = random.Random(713)
        for _ in range(100):
            hands = draw.choice((2, 3, 4, 5))
            way = Pairs(hands, draw.randint(1, hands - 1), any_lots(draw, hands))
            sheet = any_sheet(draw, hands, 6, draw.choice((2, 9, 10 ** 9)))
            if not sheet:
                continue
            margin = PairsMargin(way)
            low, paper = margin.least(sheet)
            told = plain_strength(leads_in(sheet, way))
            self.assertEqual([row[:2] for row in paper], pairs_of(sheet, way))
            for x, y, road, cut, need in paper:
                self.assertIn(road, list(all_ways(hands, x, y)))
                self.assertEqual(min(links_of(leads_in(sheet, way), road)), told[x][y])
                self.assertTrue(0 < cut < 1 << hands and cut >> y & 1 and not cut >> x & 1)
                self.assertLessEqual(max(cut_links(leads_in(sheet, way), cut)), told[y][x])
                # Sums may be great here, so the need is held against its neighbour alone.
                if told[x][y] - told[y][x] < 1000:
                    self.assertEqual(need, plain_need(way, x, y, told[x][y], told[y][x]))
                gap = told[x][y] - told[y][x]
                self.assertTrue(4 * need > gap or (4 * need == gap and way.ahead(y, x)))
                if need > 1:
                    self.assertTrue(4 * need - 4 < gap or (4 * need - 4 == gap and way.ahead(x, y)))
            self.assertEqual(low, min(row[4] for row in paper))
            self.assertLessEqual(low, margin.high(sheet)[0])
            self.assertLessEqual(margin.high(sheet)[0], ballots_in(sheet))
            for number, due in ((low, True), (low + 1, False), (1, True), (0, True), (-HUGE, True), (HUGE, False)):
                self.assertIs(margin.shows(sheet, number, paper), due)

    def test_what_is_told_is_the_askers_own(self):
        """[0.2]"""
        margin, sheet = PairsMargin(WAY), list(SHEET)
        for ask in (lambda: margin.least(sheet), lambda: margin.high(sheet), lambda: margin.told(sheet)):
            self.assertTrue(is_told_anew(ask))
        paper = margin.least(sheet)[1]
        kept = copy.deepcopy(paper)
        margin.shows(sheet, 1, paper)
        margin.held(sheet, 1, sheet)
        self.assertEqual((sheet, paper), (SHEET, kept))


class Shows(unittest.TestCase):
    """[7.14]"""

    def setUp(self):
        self.margin = PairsMargin(WAY)
        self.low, self.paper = self.margin.least(SHEET)

    def shown(self, paper, low=1):
        told = self.margin.shows(SHEET, low, paper)
        self.assertIs(told, plain_shows(SHEET, low, paper, WAY))
        return told

    def test_its_own_paper(self):
        self.assertTrue(self.shown(self.paper, self.low))
        self.assertFalse(self.shown(self.paper, self.low + 1))
        self.assertEqual(len(self.paper), 4)

    def test_all_ways_and_cuts_with_needs_of_their_own(self):
        leads = leads_in(SHEET, WAY)
        weaker = 0
        for at, (x, y, road, cut, need) in enumerate(self.paper):
            for other in all_ways(4, x, y):
                own = plain_need(WAY, x, y, min(links_of(leads, other)), max(cut_links(leads, cut)))
                weaker += own < need
                for told in (own - 1, own, own + 1):
                    paper = with_row(with_row(self.paper, at, 2, other), at, 4, told)
                    self.assertIs(self.shown(paper, -3), told == own)
                    self.assertIs(self.shown(paper, min(self.low, own)), told == own)
                    self.assertIs(self.shown(paper, own + 1), False)
            for other in range(-2, 20):
                own = need
                if 0 < other < 16 and other >> y & 1 and not other >> x & 1:
                    own = plain_need(WAY, x, y, min(links_of(leads, road)), max(cut_links(leads, other)))
                    weaker += own < need
                paper = with_row(with_row(self.paper, at, 3, other), at, 4, own)
                self.shown(paper)
                self.shown(paper, own)
                self.assertFalse(self.shown(with_row(paper, at, 4, own + 1)))
                self.assertFalse(self.shown(with_row(paper, at, 4, own - 1)))
        self.assertGreater(weaker, 10)

    def test_needs_from_one_on(self):
        """Where way and cut are so weak that no ballot would be needed, the need is 1."""
        leads = leads_in(SHEET, WAY)
        found = 0
        for at, (x, y, _, _, _) in enumerate(self.paper):
            for other, cut in itertools.product(all_ways(4, x, y), range(16)):
                if cut >> y & 1 and not cut >> x & 1:
                    gap = min(links_of(leads, other)) - max(cut_links(leads, cut))
                    if gap < -4:
                        found += 1
                        paper = with_row(with_row(with_row(self.paper, at, 2, other), at, 3, cut), at, 4, 1)
                        self.assertTrue(self.shown(paper))
                        for need in (0, -1, 2):
                            self.assertFalse(self.shown(with_row(paper, at, 4, need), -9))
        self.assertGreater(found, 3)

    def test_no_ways_and_no_cuts(self):
        for at, (x, y, _, cut, _) in enumerate(self.paper):
            for road in ([], [x], [y], [y, x], [x, x], [x, y, y], [x, y, x, y], [x, 4, y], [x, -1, y], [x, HUGE, y], [x - 4, y]):
                self.assertFalse(self.shown(with_row(self.paper, at, 2, road), -HUGE))
            for other in (0, 15, cut + 16, cut - 16, cut | 1 << x, cut & ~(1 << y), 1 << x, -1, HUGE, -HUGE):
                self.assertFalse(self.shown(with_row(self.paper, at, 3, other), -HUGE))

    def test_needs_and_hands_otherwise(self):
        for at, row in enumerate(self.paper):
            for need in (row[4] + 1, row[4] - 1, 0, -row[4], HUGE, -HUGE):
                self.assertFalse(self.shown(with_row(self.paper, at, 4, need), -HUGE))
            for place in (0, 1):
                for hand in (row[1 - place], row[place] + 1, row[place] - 4, HUGE):
                    self.assertFalse(self.shown(with_row(self.paper, at, place, hand)))

    def test_rows_left_out_doubled_exchanged(self):
        for at in range(len(self.paper)):
            self.assertFalse(self.shown(self.paper[:at] + self.paper[at + 1:]))
            self.assertFalse(self.shown(self.paper[:at] + [self.paper[at]] + self.paper[at:]))
            for other in range(at):
                rows = list(self.paper)
                rows[at], rows[other] = rows[other], rows[at]
                self.assertFalse(self.shown(rows))
        for rows in ([], self.paper + self.paper, self.paper[::-1]):
            self.assertFalse(self.shown(rows))

    def test_lows_below_nought_and_above_a_need(self):
        needs = sorted(row[4] for row in self.paper)
        for low in (-HUGE, -1, 0, 1, needs[0]):
            self.assertTrue(self.shown(self.paper, low))
        for low in (needs[0] + 1, needs[-1] + 1, HUGE):
            self.assertFalse(self.shown(self.paper, low))

    def test_papers_of_other_sheets(self):
        other = [((8, 4), 5)]
        self.assertFalse(self.shown(self.margin.least(other)[1]))
        self.assertFalse(self.margin.shows(other, 1, self.paper))


class Held(unittest.TestCase):
    """[7.15]"""

    def test_just_held_and_just_not(self):
        seen = [((1,), 4)]
        for unseen, first, second in ((0, True, True), (1, True, True), (3, True, True), (4, True, False), (5, False, False)):
            known = joined([seen, [((2,), unseen)] if unseen else []])
            for lots, due in (([0, 1], first), ([1, 0], second)):
                if Pairs(2, 1, lots).outcome(known) == [1, 0]:
                    self.assertIs(PairsMargin(Pairs(2, 1, lots)).held(seen, unseen, known), due)

    def test_not_possible(self):
        self.assertIs(PairsMargin(Pairs(2, 2)).held([], 5, [((1,), 5)]), True)
        self.assertIs(PairsMargin(Pairs(2, 1)).held([], 0, []), True)
        self.assertIs(PairsMargin(Pairs(2, 1)).held([], 1, [((1,), 1)]), False)

    def test_nothing_unseen_where_lots_would_part(self):
        # Hand 1 is level with 0 and ahead of it by lots, but beaten by 2; so 0 is picked all the same.
        way, sheet = Pairs(3, 1, [1, 0, 2]), [((1, 4, 2), 1), ((4, 2, 1), 1)]
        self.assertEqual(way.outcome(sheet), [1, 0, 0])
        self.assertIs(PairsMargin(way).held(sheet, 0, sheet), True)
        self.assertIs(PairsMargin(way).held(sheet[:1], 1, sheet), False)

    def test_by_the_words(self):
        draw = random.Random(715)
        counts = {True: 0, False: 0}
        for _ in range(300):
            hands = draw.choice((2, 3, 4))
            way = Pairs(hands, draw.randint(1, hands), any_lots(draw, hands))
            seen, rest = any_sheet(draw, hands, 4, 30), any_sheet(draw, hands, 2, 6)
            known, unseen = joined([seen, rest]), ballots_in(rest)
            told = PairsMargin(way).held(seen, unseen, known)
            self.assertIs(told, plain_held(seen, unseen, known, way))
            counts[told] += 1
        self.assertGreater(min(counts.values()), 30)

    def test_no_ballots_unseen_make_another_outcome(self):
        """[7.3]"""
        draw = random.Random(73)
        slips = all_slips(3)
        met = 0
        for _ in range(120):
            way = Pairs(3, draw.choice((1, 2)), any_lots(draw, 3))
            seen, unseen = any_sheet(draw, 3, 3, 9), draw.choice((1, 2))
            known = joined([seen, draw.choice(sheets_of(slips, unseen))])
            if PairsMargin(way).held(seen, unseen, known):
                met += 1
                for rest in sheets_of(slips, unseen):
                    self.assertEqual(way.outcome(joined([seen, rest])), way.outcome(known))
        self.assertGreater(met, 30)
