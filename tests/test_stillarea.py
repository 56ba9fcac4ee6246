import random
import unittest

from tests.draws import any_lots, is_told_anew, sheets_of, votes_sheet
from tests.test_listmargin import lists_slips
from wholepoll.lists import Lists
from wholepoll.sets import members
from wholepoll.sheets import ballots_in, is_sheet, joined
from wholepoll.stillarea import bring, greatest_seats, least_seats, sure_seats

HURDLES = (None, (1, 20), (1, 5), (1, 3), (1, 2), (1, 1))
MANY = 10 ** 9


def seats_of(way, sheet, group):
    outcome = way.outcome(sheet)
    return sum(outcome[hand] for hand in members(group))


def plain_seats(way, sheet, unseen, group):
    """[10.1] All numbers of seats that a group can have: a going through of all unseen ballots."""
    rest = sheets_of(lists_slips(way.hands), unseen)
    return {seats_of(way, joined([sheet, more]), group) for more in rest}


def drawn_way(draw, hands):
    return Lists(hands, draw.choice((1, 2, 3, 5, 7, 20)), any_lots(draw, hands), draw.choice(HURDLES), draw.randint(1, 3))


class Seats(unittest.TestCase):
    """[10.1]"""

    def test_nothing_unseen(self):
        draw = random.Random(100)
        for _ in range(60):
            way = drawn_way(draw, draw.choice((1, 2, 3, 5)))
            sheet = votes_sheet(draw, way.hands)
            for group in range(1, 1 << way.hands):
                due = seats_of(way, sheet, group)
                self.assertEqual(greatest_seats(way, sheet, 0, group), due)
                self.assertEqual(least_seats(way, sheet, 0, group), due)
            self.assertEqual(sure_seats(way, sheet, 0), way.outcome(sheet))

    def test_few_unseen(self):
        draw = random.Random(101)
        met = set()
        for _ in range(130):
            way = drawn_way(draw, draw.choice((1, 2, 3, 4)))
            sheet = votes_sheet(draw, way.hands, draw.choice((0, 1, 3, 9)))
            unseen = draw.choice((1, 2, 3, 4)) if way.hands > 2 else draw.randint(1, 8)
            for group in range(1, 1 << way.hands):
                due = plain_seats(way, sheet, unseen, group)
                told = (least_seats(way, sheet, unseen, group), greatest_seats(way, sheet, unseen, group))
                self.assertEqual(told, (min(due), max(due)))
                met.add((told, way.seats))
            alone = [min(plain_seats(way, sheet, unseen, 1 << hand)) for hand in range(way.hands)]
            self.assertEqual(sure_seats(way, sheet, unseen), alone)
        self.assertGreater(len(met), 60)

    def test_many_hands(self):
        draw = random.Random(102)
        for _ in range(12):
            way = drawn_way(draw, 12)
            sheet = votes_sheet(draw, 12, 5)
            for group in (1, 0b111, 0b101010101010, 0b111111111110, 0b111111111111):
                due = plain_seats(way, sheet, 2, group)
                self.assertEqual(least_seats(way, sheet, 2, group), min(due))
                self.assertEqual(greatest_seats(way, sheet, 2, group), max(due))

    def test_hurdles_under_which_nobody_takes_part(self):
        way = Lists(2, 3, None, (1, 2))
        sheet = [((), 4), ((1,), 2), ((2,), 1)]
        # Of ten ballots five are wanted: three more for hand 0, none else can come over it.
        self.assertEqual([greatest_seats(way, sheet, 3, group) for group in (1, 2, 3)], [3, 0, 3])
        self.assertEqual([least_seats(way, sheet, 3, group) for group in (1, 2, 3)], [0, 0, 0])
        self.assertEqual(sure_seats(way, sheet, 3), [0, 0])
        # Of twelve six: four more for hand 0, five for hand 1.
        self.assertEqual([greatest_seats(way, sheet, 5, group) for group in (1, 2, 3)], [3, 3, 3])
        self.assertEqual([greatest_seats(way, sheet, 2, group) for group in (1, 2, 3)], [0, 0, 0])
        for group in (1, 2, 3):
            self.assertEqual(bring(way, sheet, 3, group, 0), [((), 3)])

    def test_groups_of_one_and_of_all(self):
        way = Lists(3, 4)
        sheet = [((1,), 6), ((2,), 3), ((4,), 1)]
        self.assertEqual(greatest_seats(way, sheet, 10 ** 9, 7), 4)
        self.assertEqual(least_seats(way, sheet, 10 ** 9, 7), 4)
        self.assertEqual([greatest_seats(way, sheet, 10 ** 9, 1 << hand) for hand in range(3)], [4, 4, 4])
        self.assertEqual(sure_seats(way, sheet, 10 ** 9), [0, 0, 0])
        self.assertEqual(greatest_seats(way, [], 0, 7), 0)
        self.assertEqual((greatest_seats(way, [], 1, 7), least_seats(way, [], 1, 7)), (4, 0))

    def test_even_marks(self):
        # With three more hand 1 is level with hand 0 for the seat; the lots part them.
        sheet = [((1,), 5), ((2,), 2)]
        for lots, due in (([0, 1], 0), ([1, 0], 1)):
            self.assertEqual(greatest_seats(Lists(2, 1, lots), sheet, 3, 2), due)
            self.assertEqual(least_seats(Lists(2, 1, lots), sheet, 3, 1), 1 - due)
            self.assertEqual(greatest_seats(Lists(2, 1, lots), sheet, 4, 2), 1)
            self.assertEqual(greatest_seats(Lists(2, 1, lots), sheet, 2, 2), 0)

    def test_just_so_many_ballots(self):
        """Of large numbers, with one ballot fewer the seats are fewer."""
        way = Lists(2, 20, None, None, 2)
        sheet = [((1,), 10 ** 12 - 7)]
        # For one seat hand 1 must stand ahead of the twentieth mark, a 39th of the votes of hand 0.
        need = (10 ** 12 - 7) // 39 + 1
        self.assertGreater(need, MANY)
        self.assertEqual(greatest_seats(way, sheet, need, 2), 1)
        self.assertEqual(greatest_seats(way, sheet, need - 1, 2), 0)
        self.assertEqual((greatest_seats(way, sheet, MANY, 2), least_seats(way, sheet, MANY, 1)), (0, 20))
        self.assertEqual(greatest_seats(way, sheet, 10 ** 60, 2), 20)

    def test_many_unseen(self):
        draw = random.Random(103)
        for _ in range(40):
            way = Lists(draw.choice((3, 7, 12)), 20, None, draw.choice(HURDLES), draw.randint(1, 9))
            sheet = votes_sheet(draw, way.hands, draw.choice((9, 10 ** 10)))
            unseen = draw.choice((MANY, MANY // 3, 40))
            group = draw.randrange(1, 1 << way.hands)
            others = (1 << way.hands) - 1 & ~group
            least, greatest = least_seats(way, sheet, unseen, group), greatest_seats(way, sheet, unseen, group)
            self.assertTrue(0 <= least <= greatest <= way.seats)
            more = bring(way, sheet, unseen, group, least)
            self.assertEqual(seats_of(way, joined([sheet, more]), group), least)
            if others and greatest:
                # What the others have at least, where any take part, the group lacks.
                more = bring(way, sheet, unseen, others, way.seats - greatest)
                self.assertIsNotNone(more)
            for _ in range(5):
                parts = sorted(draw.randint(0, unseen) for _ in range(way.hands))
                lines = [(slip, b - a) for slip, a, b in zip(lists_slips(way.hands), [0] + parts, parts + [unseen]) if b > a]
                self.assertTrue(least <= seats_of(way, joined([sheet, lines]), group) <= greatest)


class Bring(unittest.TestCase):
    """[10.1]"""

    def brought(self, way, sheet, unseen, group, seats):
        """The sheet told is right, where one is told."""
        more = bring(way, sheet, unseen, group, seats)
        if more is not None:
            self.assertTrue(is_sheet(more, way.hands))
            self.assertEqual(ballots_in(more), unseen)
            self.assertLessEqual(seats_of(way, joined([sheet, more]), group), seats)
        return more is not None

    def test_few_unseen(self):
        draw = random.Random(104)
        met = {True: 0, False: 0}
        for _ in range(120):
            way = drawn_way(draw, draw.choice((1, 2, 3, 4)))
            sheet = votes_sheet(draw, way.hands, draw.choice((0, 3, 9)))
            unseen = draw.choice((0, 1, 2, 3))
            for group in range(1, 1 << way.hands):
                least = min(plain_seats(way, sheet, unseen, group))
                for seats in (-1, 0, 1, least - 1, least, way.seats - 1, way.seats, way.seats + 5, 10 ** 60 - 1, 1 - 10 ** 60):
                    told = self.brought(way, sheet, unseen, group, seats)
                    self.assertIs(told, seats >= least)
                    met[told] += 1
        self.assertGreater(min(met.values()), 500)

    def test_many_unseen(self):
        way = Lists(3, 20, None, (1, 20))
        sheet = [((1,), 6 * MANY), ((2,), 3 * MANY), ((4, 1), MANY), ((3,), 5)]
        for group in range(1, 8):
            least = least_seats(way, sheet, MANY, group)
            for seats in range(-1, 22):
                self.assertIs(self.brought(way, sheet, MANY, group, seats), seats >= least)

    def test_nothing_unseen(self):
        way = Lists(2, 3)
        self.assertEqual(bring(way, [((1,), 1)], 0, 1, 3), [])
        self.assertEqual(bring(way, [((1,), 1)], 0, 2, 0), [])
        self.assertIsNone(bring(way, [((1,), 1)], 0, 1, 2))
        self.assertIsNone(bring(way, [((1,), 1)], 0, 3, 2))

    def test_what_is_told_is_the_askers_own(self):
        """[0.2]"""
        way, sheet = Lists(3, 4), [((1,), 6), ((2,), 3)]
        self.assertTrue(is_told_anew(lambda: bring(way, sheet, 5, 1, 3)))
        self.assertTrue(is_told_anew(lambda: sure_seats(way, sheet, 5)))
        self.assertEqual(sheet, [((1,), 6), ((2,), 3)])
