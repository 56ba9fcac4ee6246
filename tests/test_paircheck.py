import copy
import itertools
import random
import unittest

from tests.draws import any_lots, any_sheet
from tests.test_strong import all_ways, links_of
from wholepoll.paircheck import PairsChecker
from wholepoll.pairs import Pairs
from wholepoll.strong import leads_of, overs, strength

WAY = Pairs(4, 2, [2, 0, 1, 3])
SHEET = [((1, 2, 4), 4), ((2, 4, 1), 3), ((4, 1, 2, 8), 3), ((8, 3), 2)]
HUGE = 10 ** 60 - 1


def right(sheet, paper, way=WAY):
    return PairsChecker(way).right(sheet, paper)


def plain_right(sheet, paper, way):
    """[6.19]"""
    many, shown, picks = paper
    leads = leads_of(overs(sheet, way.hands))
    if many != overs(sheet, way.hands) or [row[:2] for row in shown] != list(itertools.permutations(range(way.hands), 2)):
        return False
    for x, y, told, road, cut in shown:
        if road not in all_ways(way.hands, x, y) or min(links_of(leads, road)) != told:
            return False
        if not 0 <= cut < 1 << way.hands or not cut >> x & 1 or cut >> y & 1:
            return False
        inside = [hand for hand in range(way.hands) if cut >> hand & 1]
        if any(leads[one][other] > told for one in inside for other in range(way.hands) if other not in inside):
            return False
    return picks == way.counted(sheet)[2]


def with_row(paper, at, place, thing):
    """The paper with one thing of one row otherwise."""
    many, shown, picks = copy.deepcopy(paper)
    row = list(shown[at])
    row[place] = thing
    shown[at] = tuple(row)
    return (many, shown, picks)


class Right(unittest.TestCase):
    """[6.19]"""

    def setUp(self):
        self.paper = WAY.counted(SHEET)
        self.rows = range(len(self.paper[1]))

    def test_its_own_paper(self):
        self.assertIs(right(SHEET, self.paper), True)
        draw = random.Random(619)
        for _ in range(60):
            hands = draw.choice((1, 2, 3, 5, 12))
            way = Pairs(hands, draw.randint(1, 3), any_lots(draw, hands))
            sheet = any_sheet(draw, hands)
            checker = PairsChecker(way)
            self.assertIs(checker.way, way)
            self.assertIs(checker.right(sheet, way.counted(sheet)), True)
            self.assertIs(checker.passes(sheet, way.counted(sheet), way.outcome(sheet)), True)
            self.assertIs(checker.passes(sheet, way.counted(sheet), [0] * hands), False)

    def test_all_ways_and_cuts(self):
        """Each other way and cut is right just where it shows the same."""
        seen = {True: 0, False: 0}
        for at in self.rows:
            x, y = self.paper[1][at][:2]
            for road in all_ways(4, x, y):
                paper = with_row(self.paper, at, 3, road)
                told = right(SHEET, paper)
                self.assertIs(told, plain_right(SHEET, paper, WAY))
                seen[told] += 1
            for cut in range(-3, 40):
                paper = with_row(self.paper, at, 4, cut)
                told = right(SHEET, paper)
                self.assertIs(told, plain_right(SHEET, paper, WAY))
                seen[told] += 1
        # Besides the paper itself, told twice a row, there are other right ones.
        self.assertGreater(seen[True], 2 * len(self.rows))
        self.assertGreater(seen[False], 100)

    def test_strengths_otherwise(self):
        for at in self.rows:
            told = self.paper[1][at][2]
            for other in (told + 1, told - 1, -told if told else 2, HUGE, -HUGE):
                self.assertIs(right(SHEET, with_row(self.paper, at, 2, other)), False)

    def test_a_weaker_way_with_its_own_strength(self):
        """A way that is weaker shows no strength, even where it is told what the way has."""
        leads = leads_of(overs(SHEET, 4))
        found = 0
        for at in self.rows:
            x, y, told = self.paper[1][at][:3]
            for road in all_ways(4, x, y):
                if min(links_of(leads, road)) < told:
                    found += 1
                    paper = with_row(with_row(self.paper, at, 3, road), at, 2, min(links_of(leads, road)))
                    self.assertIs(right(SHEET, paper), False)
        self.assertGreater(found, 5)

    def test_no_ways(self):
        for at in self.rows:
            x, y = self.paper[1][at][:2]
            z = [hand for hand in range(4) if hand not in (x, y)][0]
            for road in (
                [], [x], [y], [y, x], [x, x], [x, y, y], [x, x, y], [x, z, z, y], [x, y, x, y], [x, z], [z, y], [x, 4, y],
                [x, -1, y], [x, HUGE, y], [x - 4, y], [x, y - 4], [x, z - 4, y], [4], [x, y, z],
            ):
                self.assertIs(right(SHEET, with_row(self.paper, at, 3, road)), False, road)

    def test_no_cuts(self):
        for at in self.rows:
            x, y, _, _, cut = self.paper[1][at]
            for mask in (0, cut + 16, cut - 16, cut + 4096, cut & ~(1 << x), cut | 1 << y, 15, -1, HUGE, -HUGE, 1 << y):
                self.assertIs(right(SHEET, with_row(self.paper, at, 4, mask)), False, mask)

    def test_hands_of_rows_otherwise(self):
        for at in self.rows:
            for place in (0, 1):
                for hand in (self.paper[1][at][1 - place], 4, -1, HUGE, self.paper[1][at][place] - 4):
                    self.assertIs(right(SHEET, with_row(self.paper, at, place, hand)), False)

    def test_rows_left_out_doubled_exchanged(self):
        many, shown, picks = self.paper
        for at in self.rows:
            self.assertIs(right(SHEET, (many, shown[:at] + shown[at + 1:], picks)), False)
            self.assertIs(right(SHEET, (many, shown[:at] + [shown[at]] + shown[at:], picks)), False)
            for other in range(at):
                rows = list(shown)
                rows[at], rows[other] = rows[other], rows[at]
                self.assertIs(right(SHEET, (many, rows, picks)), False)
        for rows in ([], shown[:1], shown + shown, shown[::-1]):
            self.assertIs(right(SHEET, (many, rows, picks)), False)

    def test_overs_otherwise(self):
        many, shown, picks = self.paper
        for x, y in itertools.product(range(4), repeat=2):
            for more in (1, -1, HUGE):
                other = [list(row) for row in many]
                other[x][y] += more
                self.assertIs(right(SHEET, (other, shown, picks)), False)
                # More over one another both ways leaves the leads.
                other[y][x] += more
                self.assertIs(right(SHEET, (other, shown, picks)), False)
        for other in ([], many[:3], many + [[0] * 4], [row[:3] for row in many], [[] for _ in many], many[::-1]):
            self.assertIs(right(SHEET, (other, shown, picks)), False)

    def test_picks_otherwise(self):
        many, shown, picks = self.paper
        self.assertEqual(len(picks), 2)
        for length in range(4):
            for other in itertools.product(range(-1, 5), repeat=length):
                self.assertIs(right(SHEET, (many, shown, list(other))), list(other) == picks)
        self.assertIs(right(SHEET, (many, shown, picks + [HUGE])), False)

    def test_papers_of_other_sheets_and_ways(self):
        other = [((1, 2), 5)]
        self.assertIs(right(other, self.paper), False)
        self.assertIs(right(SHEET, WAY.counted(other)), False)
        self.assertIs(right([], WAY.counted([])), True)
        self.assertIs(right([], self.paper), False)
        self.assertIs(right(SHEET, self.paper, Pairs(4, 1, WAY.lots)), False)
        self.assertIs(right(SHEET, Pairs(4, 1, WAY.lots).counted(SHEET)), False)
        self.assertIs(right([], Pairs(4, 2).counted([])), False)
        self.assertIs(right([], Pairs(3, 2).counted([])), False)
        self.assertIs(right([], Pairs(5, 2).counted([])), False)

    def test_one_hand(self):
        way = Pairs(1, 1)
        self.assertIs(right([], ([[0]], [], [0]), way), True)
        for paper in (([[0]], [], []), ([[1]], [], [0]), ([[0]], [(0, 0, 0, [0], 1)], [0]), ([], [], [0]), ([[0]], [], [1])):
            self.assertIs(right([], paper, way), False)

    def test_passes(self):
        checker = PairsChecker(WAY)
        due = WAY.outcome(SHEET)
        for outcome in itertools.product((0, 1, 2), repeat=4):
            self.assertIs(checker.passes(SHEET, self.paper, list(outcome)), list(outcome) == due)
        for outcome in ([], due[:3], due + [0]):
            self.assertIs(checker.passes(SHEET, self.paper, outcome), False)
        self.assertIs(checker.passes(SHEET, with_row(self.paper, 0, 2, HUGE), due), False)

    def test_what_is_handed_in_stays(self):
        """[0.2]"""
        kept = copy.deepcopy(self.paper)
        right(SHEET, self.paper)
        PairsChecker(WAY).passes(SHEET, self.paper, WAY.outcome(SHEET))
        self.assertEqual(self.paper, kept)
        self.assertEqual(strength(leads_of(self.paper[0]))[0][1], self.paper[1][0][2])
