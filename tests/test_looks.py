import copy
import random
import unittest

from tests.draws import is_told_anew, spoiled, votes_sheet
from tests.test_lots import by_area
from tests.things import anything_but_numbers
from wholepoll.errors import Ended, NoSheet, WrongNumber
from wholepoll.house import House
from wholepoll.landmargin import LandMargin
from wholepoll.lands import Land
from wholepoll.lists import Lists
from wholepoll.looks import Look, order_of
from wholepoll.pairs import Pairs
from wholepoll.sheets import ballots_in, joined

LAND = Land([Lists(2, 1), Pairs(2, 1)], 1)
BUNDLES = [(0, [((1,), 5)]), (1, [((1, 2), 4)]), (0, [((1,), 2), ((2,), 3)]), (1, [((2, 1), 3)])]


def plain_order(number, many):
    """[9.31]"""
    left, order = list(range(many)), []
    while left:
        m = len(left)
        order.append(left[number % m])
        left.remove(order[-1])
        number = number // m
    return order


def plain_state(land, told, found):
    """[9.32] The word, unlooked and known, of told bundles and a dict of what was found in some."""
    known = by_area(land, [(area, found.get(place, sheet)) for place, (area, sheet) in enumerate(told)])
    seen = by_area(land, [(told[place][0], found[place]) for place in found])
    left = by_area(land, [one for place, one in enumerate(told) if place not in found])
    unlooked = [ballots_in(sheet) for sheet in left]
    word = "open"
    if LandMargin(land).held(seen, unlooked, known):
        same = House(land, known).outcome() == House(land, by_area(land, told)).outcome()
        word = "sure" if same else "otherwise"
    return word, unlooked, known


def state(look):
    return (look.word(), look.unlooked(), look.known())


class Order(unittest.TestCase):
    """[9.31]"""

    def test_none_one_and_sixty(self):
        for number in (0, 1, 59, 10 ** 99, 10 ** 100 - 1):
            self.assertEqual(order_of(number, 0), [])
            self.assertEqual(order_of(number, 1), [0])
            for many in (2, 3, 7, 59, 60):
                self.assertEqual(order_of(number, many), plain_order(number, many))
                self.assertEqual(sorted(order_of(number, many)), list(range(many)))

    def test_ordinary(self):
        self.assertEqual(order_of(0, 4), [0, 1, 2, 3])
        self.assertEqual(order_of(1, 4), [1, 0, 2, 3])
        # 23 by 4 leaves 3, then 5 by 3 leaves 2, then 1 by 2 leaves 1.
        self.assertEqual(order_of(23, 4), [3, 2, 1, 0])
        self.assertEqual(order_of(24, 4), [0, 1, 2, 3])

    def test_each_order_comes_once(self):
        self.assertEqual(len({tuple(order_of(number, 5)) for number in range(120)}), 120)

    def test_drawn(self):
        draw = random.Random(931)
        for _ in range(60):
            number, many = draw.randrange(10 ** draw.choice((1, 20, 100))), draw.randint(0, 60)
            self.assertEqual(order_of(number, many), plain_order(number, many))
            self.assertTrue(many == 0 or is_told_anew(lambda: order_of(number, many)))


class Looks(unittest.TestCase):
    """[9.32]"""

    def test_sure_at_once(self):
        for land, bundles in ((LAND, []), (Land([Pairs(2, 2)]), [(0, [((1,), 5)])]), (LAND, [(0, []), (1, [])])):
            look = Look(land, bundles, 5)
            self.assertEqual(state(look), ("sure", [sum(ballots_in(s) for a, s in bundles if a == area) for area in range(len(land.areas))],
                                           by_area(land, bundles)))
            self.assertIsNone(look.due())
            with self.assertRaises(Ended):
                look.found([])

    def test_sure_behind_some_and_behind_all(self):
        land = Land([Lists(2, 1)])
        told = [(0, [((1,), 3)])] * 3
        look = Look(land, told, 0)
        self.assertEqual((look.word(), look.due(), look.unlooked()), ("open", 0, [9]))
        self.assertEqual(look.found([((1,), 3)]), "open")
        self.assertEqual((look.word(), look.due(), look.unlooked()), ("open", 1, [6]))
        self.assertEqual(look.found([((1,), 3)]), "sure")
        self.assertEqual((look.word(), look.due(), look.unlooked()), ("sure", None, [3]))
        look = Look(land, told, 0)
        self.assertEqual(look.found([((1,), 1), ((2,), 2)]), "open")
        self.assertEqual(look.found([((1,), 3)]), "open")
        self.assertEqual(look.found([((1,), 3)]), "sure")
        self.assertEqual((look.due(), look.unlooked(), look.known()), (None, [0], [[((1,), 7), ((2,), 2)]]))

    def test_otherwise(self):
        land = Land([Lists(2, 1)])
        told = [(0, [((1,), 3)])] * 3
        look = Look(land, told, 0)
        self.assertEqual(look.found([((2,), 3)]), "open")
        self.assertEqual(look.known(), [[((1,), 6), ((2,), 3)]])
        # Behind some: six to three at most, whatever the last three are.
        self.assertEqual(look.found([((2,), 1), ((2,), 2)]), "otherwise")
        self.assertEqual((look.due(), look.unlooked(), look.known()), (None, [3], [[((1,), 3), ((2,), 6)]]))
        with self.assertRaises(Ended):
            look.found([((1,), 3)])
        # Behind all.
        look = Look(land, told, 0)
        self.assertEqual(look.found([((2,), 3)]), "open")
        self.assertEqual(look.found([((2,), 1), ((1,), 2)]), "open")
        self.assertEqual(look.found([((2,), 3)]), "otherwise")
        self.assertEqual((look.due(), look.unlooked(), look.known()), (None, [0], [[((1,), 2), ((2,), 7)]]))

    def test_in_the_order_of_the_number(self):
        for number in range(30):
            look, order = Look(LAND, BUNDLES, number), []
            while look.due() is not None:
                order.append(look.due())
                look.found(BUNDLES[look.due()][1])
            self.assertEqual(order, order_of(number, 4)[:len(order)])
            self.assertEqual(look.word(), "sure")

    def test_all_that_is_told_behind_each_bundle(self):
        draw = random.Random(932)
        met = {}
        for _ in range(150):
            hands = draw.choice((1, 2, 3))
            areas = [draw.choice((Lists, Pairs))(hands, draw.randint(1, 2)) for _ in range(draw.randint(1, 3))]
            land = Land(areas, draw.choice((0, 1)), None, draw.choice((None, (1, 5))))
            told = [(draw.randrange(len(areas)), votes_sheet(draw, hands, 4)) for _ in range(draw.choice((0, 1, 4, 12)))]
            number = draw.randrange(10 ** 9)
            look, order, found = Look(land, told, number), order_of(number, len(told)), {}
            while True:
                self.assertEqual(state(look), plain_state(land, told, found))
                if look.word() != "open":
                    break
                place = order[len(found)]
                self.assertEqual(look.due(), place)
                many = ballots_in(told[place][1])
                lines = draw.choice((told[place][1], [((1,), many)] if many else [], [((1 << hands - 1,), many)] if many else []))
                found[place] = joined([lines])
                self.assertEqual(look.found(lines), plain_state(land, told, found)[0])
            self.assertIsNone(look.due())
            kind = (look.word(), "all" if len(found) == len(told) else "at once" if not found else "some")
            met[kind] = met.get(kind, 0) + 1
        self.assertGreater(min(met[kind] for kind in (("sure", "all"), ("sure", "at once"), ("sure", "some"), ("otherwise", "some"))), 4)
        self.assertIn(("otherwise", "all"), met)

    def test_refused_in_its_order(self):
        look = Look(LAND, BUNDLES, 0)
        kept = (state(look), look.due())
        for number in [0, -1, 10 ** 9 + 1] + anything_but_numbers():
            with self.assertRaises(NoSheet):
                look.found([((1,), 5), ((2,), number)])
            with self.assertRaises(NoSheet):
                look.found([((1,), number)])
        for lines, got in (([], 0), ([((1,), 4)], 4), ([((1,), 3), ((2,), 3)], 6), ([((), 10 ** 9)], 10 ** 9)):
            with self.assertRaises(WrongNumber) as caught:
                look.found(lines)
            self.assertEqual((caught.exception.wanted, caught.exception.got), (5, got))
        # What was refused changed nothing.
        self.assertEqual((state(look), look.due()), kept)
        while look.word() == "open":
            look.found(BUNDLES[look.due()][1])
        kept = state(look)
        for lines in ([((1,), 0)], [((1,), True)], [((1,), 4)], []):
            with self.assertRaises(Ended):
                look.found(lines)
        self.assertEqual(state(look), kept)

    def test_told_bundles_with_large_lines(self):
        """A line of a told sheet may have more ballots than one that is found."""
        look = Look(Land([Lists(2, 1)]), [(0, [((1,), 10 ** 9 + 1)])], 0)
        with self.assertRaises(NoSheet):
            look.found([((1,), 10 ** 9 + 1)])
        self.assertEqual(look.found([((1,), 10 ** 9), ((1,), 1)]), "sure")

    def test_changed_afterwards(self):
        """[0.2]"""
        told = copy.deepcopy(BUNDLES)
        look = Look(LAND, told, 0)
        due = state(look)
        spoiled(told)
        told.clear()
        self.assertEqual(state(look), due)
        lines = [((2,), 2), ((1,), 3)]
        look.found(lines)
        due = state(look)
        lines.clear()
        self.assertEqual(state(look), due)
        self.assertEqual(look.known()[0], [((1,), 5), ((2,), 5)])
        self.assertTrue(is_told_anew(look.known))
        self.assertTrue(is_told_anew(look.unlooked))
        lines = copy.deepcopy(BUNDLES[1][1])
        look.found(lines)
        self.assertEqual(lines, BUNDLES[1][1])

    def test_found_lines_that_are_a_told_sheet(self):
        bundles = copy.deepcopy(BUNDLES)
        look = Look(LAND, bundles, 0)
        look.found(bundles[0][1])
        self.assertEqual(bundles, BUNDLES)
