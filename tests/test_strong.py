import itertools
import random
import unittest

from tests.draws import any_sheet, is_told_anew
from wholepoll.ballots import prefers
from wholepoll.strong import cut_between, leads_of, overs, strength, way_between


def plain_overs(sheet, hands):
    """[6.11]"""
    among = range(hands)
    return [[sum(many for slip, many in sheet if prefers(slip, x, y) == 1) for y in among] for x in among]


def links_of(leads, way):
    return [leads[one][other] for one, other in zip(way, way[1:])]


def all_ways(hands, x, y):
    between = [hand for hand in range(hands) if hand not in (x, y)]
    for many in range(len(between) + 1):
        for some in itertools.permutations(between, many):
            yield [x, *some, y]


def plain_strength(leads):
    """A going through of all ways [6.13]."""
    told = [[0] * len(leads) for _ in leads]
    for x, y in itertools.permutations(range(len(leads)), 2):
        told[x][y] = max(min(links_of(leads, way)) for way in all_ways(len(leads), x, y))
    return told


def leads_by(rows, hands):
    """Leads by those of each two hands, rising."""
    told = [[0] * hands for _ in range(hands)]
    for (x, y), lead in zip(itertools.combinations(range(hands), 2), rows):
        told[x][y], told[y][x] = lead, -lead
    return told


def drawn_leads(draw, hands):
    most = draw.choice((1, 2, 5, 40, 10 ** 60 - 1))
    return leads_by([draw.randint(-most, most) for _ in range(hands * hands)], hands)


class Overs(unittest.TestCase):
    """[6.11]"""

    def test_ordinary(self):
        sheet = [((), 7), ((1,), 3), ((2, 1), 5), ((6,), 2)]
        self.assertEqual(overs(sheet, 3), [[0, 3, 8], [7, 0, 5], [2, 0, 0]])

    def test_level_and_unranked_hands(self):
        self.assertEqual(overs([((3,), 4)], 3), [[0, 0, 4], [0, 0, 4], [0, 0, 0]])
        self.assertEqual(overs([((7,), 4)], 3), [[0] * 3] * 3)
        self.assertEqual(overs([((4, 2), 4)], 4), [[0] * 4, [4, 0, 0, 4], [4, 4, 0, 4], [0] * 4])

    def test_empty_ballots_and_none(self):
        for hands in (1, 2, 12):
            self.assertEqual(overs([], hands), [[0] * hands] * hands)
            self.assertEqual(overs([((), 10 ** 12)], hands), [[0] * hands] * hands)
        self.assertEqual(overs([((1,), 5)], 1), [[0]])

    def test_numbers_above_the_bound_of_a_line(self):
        self.assertEqual(overs([((), 1), ((2,), 10 ** 12)], 2), [[0, 0], [10 ** 12, 0]])

    def test_drawn(self):
        draw = random.Random(611)
        for hands in (1, 2, 3, 5, 12):
            for _ in range(20):
                sheet = any_sheet(draw, hands)
                told = overs(sheet, hands)
                self.assertEqual(told, plain_overs(sheet, hands))
                for x, y in itertools.combinations(range(hands), 2):
                    level = sum(many for slip, many in sheet if prefers(slip, x, y) == 0)
                    self.assertEqual(told[x][y] + told[y][x] + level, sum(many for slip, many in sheet))


class Leads(unittest.TestCase):
    """[6.12]"""

    def test_leads(self):
        self.assertEqual(leads_of([[0, 3, 8], [7, 0, 5], [2, 0, 0]]), [[0, -4, 6], [4, 0, 5], [-6, -5, 0]])
        self.assertEqual(leads_of([[0]]), [[0]])
        self.assertEqual(leads_of([[0, 10 ** 60], [1, 0]]), [[0, 10 ** 60 - 1], [1 - 10 ** 60, 0]])
        self.assertEqual(leads_of([[0] * 12] * 12), [[0] * 12] * 12)

    def test_what_is_told_is_the_askers_own(self):
        """[0.2]"""
        many = [[0, 3], [7, 0]]
        leads = [[0, 3, -1], [-3, 0, 2], [1, -2, 0]]
        for ask in (
            lambda: overs([((1,), 2)], 2), lambda: leads_of(many), lambda: strength(leads),
            lambda: way_between(leads, 0, 2),
        ):
            self.assertTrue(is_told_anew(ask))
        cut_between(leads, 0, 2)
        self.assertEqual((many, leads), ([[0, 3], [7, 0]], [[0, 3, -1], [-3, 0, 2], [1, -2, 0]]))
        rows = strength(leads)
        self.assertEqual(len({id(row) for row in rows + leads}), 6)


class Strength(unittest.TestCase):
    """[6.13] [6.14] [6.15]"""

    def held_against_all_ways(self, leads):
        hands = len(leads)
        told = strength(leads)
        self.assertEqual(told, plain_strength(leads))
        for x, y in itertools.permutations(range(hands), 2):
            way = way_between(leads, x, y)
            self.assertIn(way, list(all_ways(hands, x, y)))
            self.assertEqual(min(links_of(leads, way)), told[x][y])
            cut = cut_between(leads, x, y)
            inside = [hand for hand in range(hands) if cut >> hand & 1]
            self.assertTrue(0 < cut < 1 << hands and x in inside and y not in inside)
            outside = [hand for hand in range(hands) if hand not in inside]
            self.assertTrue(all(leads[one][other] <= told[x][y] for one in inside for other in outside))

    def test_one_hand_and_two(self):
        self.assertEqual(strength([[0]]), [[0]])
        self.assertEqual(strength([[0, -5], [5, 0]]), [[0, -5], [5, 0]])
        self.assertEqual((way_between([[0, -5], [5, 0]], 0, 1), cut_between([[0, -5], [5, 0]], 0, 1)), ([0, 1], 1))
        self.assertEqual((way_between([[0, -5], [5, 0]], 1, 0), cut_between([[0, -5], [5, 0]], 1, 0)), ([1, 0], 2))

    def test_orders_that_go_round(self):
        leads = leads_by([6, -2, 4], 3)
        self.assertEqual(strength(leads), [[0, 6, 4], [2, 0, 4], [2, 2, 0]])
        self.held_against_all_ways(leads)
        self.assertEqual(way_between(leads, 0, 2), [0, 1, 2])
        # The way over both others is stronger by far than any link.
        self.held_against_all_ways(leads_by([9, -9, -9, 9, -9, 9], 4))

    def test_leads_below_nought_are_links(self):
        leads = leads_by([-1, -3, -1], 3)
        self.assertEqual(strength(leads), [[0, -1, -1], [1, 0, -1], [3, 1, 0]])
        self.held_against_all_ways(leads)

    def test_alike_leads(self):
        for hands in (2, 3, 4):
            for lead in (0, 3, -3):
                self.held_against_all_ways(leads_by([lead] * 6, hands))

    def test_all_small_leads(self):
        for rows in itertools.product((-2, -1, 0, 1, 2), repeat=3):
            self.held_against_all_ways(leads_by(rows, 3))
        for rows in itertools.product((-1, 0, 2), repeat=6):
            self.held_against_all_ways(leads_by(rows, 4))

    def test_drawn_leads(self):
        draw = random.Random(613)
        for _ in range(40):
            self.held_against_all_ways(drawn_leads(draw, draw.choice((4, 5, 6))))

    def test_twelve_hands(self):
        draw = random.Random(12)
        for _ in range(15):
            leads = drawn_leads(draw, 12)
            told = strength(leads)
            for x, y in itertools.permutations(range(12), 2):
                way, cut = way_between(leads, x, y), cut_between(leads, x, y)
                self.assertEqual((way[0], way[-1], len(set(way))), (x, y, len(way)))
                # A way as strong and a cut with no greater link show that this is the strength.
                self.assertEqual(min(links_of(leads, way)), told[x][y])
                inside = [hand for hand in range(12) if cut >> hand & 1]
                self.assertTrue(x in inside and y not in inside and 0 < cut < 4096)
                links = [leads[one][other] for one in inside for other in range(12) if other not in inside]
                self.assertLessEqual(max(links), told[x][y])
            self.assertEqual([told[x][x] for x in range(12)], [0] * 12)

    def test_beating_goes_on(self):
        """[6.15]"""
        draw = random.Random(615)
        for _ in range(60):
            told = strength(drawn_leads(draw, draw.choice((3, 4, 5, 8))))
            among = range(len(told))
            beats = [[told[x][y] > told[y][x] for y in among] for x in among]
            for x, y, z in itertools.product(among, repeat=3):
                self.assertTrue(beats[x][z] or not (beats[x][y] and beats[y][z]))
            for size in (1, 2, 3):
                for some in itertools.combinations(among, size):
                    self.assertTrue(any(not any(beats[y][x] for y in some) for x in some))
