import itertools
import random
import unittest

from tests.draws import any_lots, any_sheet, is_told_anew
from tests.test_strong import links_of, plain_overs, plain_strength
from wholepoll.ballots import ranks_of, slip_of
from wholepoll.pairs import Pairs
from wholepoll.sheets import joined
from wholepoll.strong import leads_of, overs

# Who goes round: 0 over 1 by 4, 1 over 2 by 4, 2 over 0 by 2; 3 is behind all.
ROUND = [((1, 2, 4), 4), ((2, 4, 1), 3), ((4, 1, 2), 3)]


def plain_picks(sheet, way):
    """[6.16]"""
    strengths = plain_strength(leads_of(plain_overs(sheet, way.hands)))
    left, picks = list(range(way.hands)), []
    while left and len(picks) < way.seats:
        free = [x for x in left if all(strengths[y][x] <= strengths[x][y] for y in left)]
        picks.append(min(free, key=way.lots.index))
        left.remove(picks[-1])
    return picks


def turned(sheet, hands):
    """The sheet with each ballot's order turned round."""
    lines = []
    for slip, many in sheet:
        unranked = (1 << hands) - 1 - sum(slip)
        lines.append((tuple(tier for tier in (unranked, *slip[::-1]) if tier), many))
    return joined([lines])


def lifted(draw, slip, hand, hands):
    """A slip with a hand put farther ahead, all others staying to one another as they are."""
    ranks = [2 * rank if rank > 0 else 0 for rank in ranks_of(slip, hands)]
    now = ranks[hand] if ranks[hand] > 0 else 2 * hands + 1
    # An odd rank is one between the others; none that stood behind comes to stand level.
    ranks[hand] = draw.randint(1, now)
    return slip_of(ranks, hands)


class Picks(unittest.TestCase):
    """[6.16] [6.17]"""

    def test_ordinary(self):
        sheet = [((1, 2), 3), ((2, 4), 2), ((4, 1), 1)]
        way = Pairs(3, 2)
        self.assertEqual(way.counted(sheet)[2], [0, 1])
        self.assertEqual(way.outcome(sheet), [1, 1, 0])
        self.assertEqual(way.unbeaten(sheet), 1)
        beaten = [(x, y) for x in range(3) for y in range(3) if way.beats(sheet, x, y)]
        self.assertEqual(beaten, [(0, 1), (0, 2), (1, 2)])

    def test_beats_is_a_truth(self):
        way = Pairs(2, 1)
        self.assertIs(way.beats([((1,), 1)], 0, 1), True)
        self.assertIs(way.beats([((1,), 1)], 1, 0), False)
        self.assertIs(way.beats([((1,), 1)], 0, 0), False)

    def test_lots_part_the_unbeaten(self):
        for order in itertools.permutations(range(4)):
            way = Pairs(4, 4, list(order))
            self.assertEqual(way.counted([])[2], list(order))
            sheet = [((12, 3), 2)]
            self.assertEqual(way.unbeaten(sheet), 12)
            due = [hand for hand in order if hand > 1] + [hand for hand in order if hand < 2]
            self.assertEqual(way.counted(sheet)[2], due)
            self.assertEqual(Pairs(4, 3, list(order)).outcome(sheet)[due[3]], 0)

    def test_more_seats_than_hands(self):
        for seats in (3, 4, 60):
            way = Pairs(3, seats, [2, 1, 0])
            self.assertEqual(way.counted([((2,), 1)])[2], [1, 2, 0])
            self.assertEqual(way.outcome([((2,), 1)]), [1, 1, 1])
        self.assertEqual(Pairs(1, 1).outcome([]), [1])
        self.assertEqual(Pairs(1, 60).counted([((1,), 3)]), ([[0]], [], [0]))

    def test_orders_that_go_round(self):
        way = Pairs(4, 2)
        self.assertEqual(leads_of(overs(ROUND, 4))[0][1:3], [4, -2])
        self.assertEqual(way.unbeaten(ROUND), 1)
        self.assertEqual(way.counted(ROUND)[2], [0, 1])
        even = [((1, 2, 4), 1), ((2, 4, 1), 1), ((4, 1, 2), 1)]
        self.assertEqual(Pairs(3, 1).unbeaten(even), 7)
        self.assertEqual(Pairs(3, 2, [1, 2, 0]).counted(even)[2], [1, 2])

    def test_those_left_alone_beat(self):
        """A hand is free where those that beat it are picked already; strengths are those over all hands."""
        sheet = [((1, 2, 4), 5), ((1, 4, 2), 1)]
        self.assertEqual(Pairs(3, 3, [2, 1, 0]).counted(sheet)[2], [0, 1, 2])

    def test_no_ballots(self):
        for sheet in ([], [((), 5)], [((7,), 5)]):
            way = Pairs(3, 1, [1, 0, 2])
            self.assertEqual((way.unbeaten(sheet), way.outcome(sheet)), (7, [0, 1, 0]))
            self.assertFalse(any(way.beats(sheet, x, y) for x in range(3) for y in range(3)))

    def test_twelve_hands(self):
        slip = tuple(1 << hand for hand in range(12))
        self.assertEqual(Pairs(12, 5).counted([(slip, 10 ** 12)])[2], [0, 1, 2, 3, 4])
        self.assertEqual(Pairs(12, 5).unbeaten([]), 4095)

    def test_drawn(self):
        draw = random.Random(616)
        for _ in range(150):
            hands = draw.choice((1, 2, 3, 4, 5))
            way = Pairs(hands, draw.randint(1, hands + 1), any_lots(draw, hands))
            sheet = any_sheet(draw, hands)
            picks = plain_picks(sheet, way)
            many, shown, told = way.counted(sheet)
            self.assertEqual(told, picks)
            self.assertEqual(way.outcome(sheet), [int(hand in picks) for hand in range(hands)])
            self.assertEqual(many, plain_overs(sheet, hands))
            self.papers_show(shown, leads_of(many))
            strengths = plain_strength(leads_of(many))
            free = 0
            for x in range(hands):
                for y in range(hands):
                    self.assertIs(way.beats(sheet, x, y), strengths[x][y] > strengths[y][x])
                free += (1 << x) * all(strengths[y][x] <= strengths[x][y] for y in range(hands))
            self.assertEqual(way.unbeaten(sheet), free)

    def papers_show(self, shown, leads):
        among = range(len(leads))
        strengths = plain_strength(leads)
        self.assertEqual([row[:2] for row in shown], list(itertools.permutations(among, 2)))
        for x, y, told, way, cut in shown:
            self.assertEqual(told, strengths[x][y])
            self.assertEqual((way[0], way[-1], len(set(way)), min(links_of(leads, way))), (x, y, len(way), told))
            inside = [hand for hand in among if cut >> hand & 1]
            self.assertTrue(0 < cut < 1 << len(leads) and x in inside and y not in inside)
            self.assertTrue(all(leads[one][other] <= told for one in inside for other in among if other not in inside))

    def test_told_by(self):
        way = Pairs(4, 2)
        for picks in ([], [0], [3, 1], [0, 1, 2, 3]):
            due = [int(hand in picks) for hand in range(4)]
            self.assertEqual(way.told_by(([], [], picks)), due)
        self.assertTrue(all(type(seats) is int for seats in way.outcome(ROUND)))

    def test_what_is_told_is_the_askers_own(self):
        """[0.2]"""
        way, sheet = Pairs(4, 2, [3, 1, 0, 2]), list(ROUND)
        self.assertTrue(is_told_anew(lambda: way.counted(sheet)))
        self.assertTrue(is_told_anew(lambda: way.outcome(sheet)))
        many, shown, picks = way.counted(sheet)
        inner = many + [row[3] for row in shown]
        self.assertEqual(len({id(one) for one in inner}), len(inner))
        self.assertTrue(is_told_anew(lambda: way.told_by(([], [], [1]))))
        self.assertEqual((sheet, way.lots), (ROUND, [3, 1, 0, 2]))


class Sentences(unittest.TestCase):
    """[6.18]"""

    def test_a_set_that_leads_all_others(self):
        draw = random.Random(1)
        found = 0
        for _ in range(200):
            sheet = any_sheet(draw, 4, 4)
            leads = leads_of(overs(sheet, 4))
            picks = Pairs(4, 4, any_lots(draw, 4)).counted(sheet)[2]
            for size in (1, 2, 3):
                for some in itertools.combinations(range(4), size):
                    if all(leads[x][y] > 0 for x in some for y in range(4) if y not in some):
                        found += 1
                        self.assertEqual(sorted(picks[:size]), list(some))
        self.assertGreater(found, 50)

    def test_ballots_turned_round(self):
        draw = random.Random(2)
        for _ in range(100):
            hands = draw.choice((2, 3, 5))
            way = Pairs(hands, 1)
            sheet = any_sheet(draw, hands)
            other = turned(sheet, hands)
            for x, y in itertools.product(range(hands), repeat=2):
                self.assertIs(way.beats(other, x, y), way.beats(sheet, y, x))

    def test_an_unbeaten_hand_put_farther_ahead(self):
        draw = random.Random(3)
        for _ in range(300):
            hands = draw.choice((3, 4))
            way = Pairs(hands, 1)
            sheet = any_sheet(draw, hands)
            free = [hand for hand in range(hands) if way.unbeaten(sheet) >> hand & 1]
            hand = draw.choice(free)
            lines = []
            for slip, many in sheet:
                some = draw.randint(0, many)
                lines.extend([(lifted(draw, slip, hand, hands), some), (slip, many - some)])
            other = joined([[line for line in lines if line[1] > 0]])
            self.assertTrue(way.unbeaten(other) >> hand & 1)

    def test_one_seat_more(self):
        draw = random.Random(4)
        for _ in range(60):
            sheet, lots = any_sheet(draw, 5), any_lots(draw, 5)
            former = []
            for seats in range(1, 7):
                picks = Pairs(5, seats, lots).counted(sheet)[2]
                self.assertEqual(picks[:len(former)], former)
                self.assertEqual(len(picks), min(seats, 5))
                former = picks

    def test_the_empty_sheet(self):
        for hands in range(1, 13):
            self.assertEqual(Pairs(hands, 1).unbeaten([]), (1 << hands) - 1)
