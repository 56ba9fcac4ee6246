import unittest

from tests.land import plain_barred, plain_place, plain_votes_in, some_tellings
from wholepoll.rolls import Roll
from wholepoll.stretches import day_from, moved, sizes, stretches, touched

MOST = 10 ** 9
VOTERS = ("ann", "bob", "cy", "dy")


class Stretches(unittest.TestCase):
    """[3.5]"""

    def test_a_life(self):
        roll = Roll(2, [
            (1, 3, "a", "comes", 0), (2, 5, "a", "barred", None), (3, 7, "a", "comes", 1),
            (4, 9, "a", "cleared", None), (5, 11, "a", "goes", None),
        ])
        due = [(0, None, False), (3, 0, False), (5, 0, True), (7, 1, True), (9, 1, False), (11, None, False)]
        self.assertEqual(stretches(roll, "a"), due)
        self.assertEqual(stretches(roll, "b"), [(0, None, False)])

    def test_tellings_that_change_nothing(self):
        roll = Roll(2, [
            (1, 1, "a", "goes", None), (2, 2, "a", "cleared", None), (3, 3, "a", "comes", 0), (4, 4, "a", "comes", 0),
            (5, 5, "a", "barred", None), (6, 6, "a", "barred", None), (7, 7, "b", "comes", 1),
        ])
        self.assertEqual(stretches(roll, "a"), [(0, None, False), (3, 0, False), (5, 0, True)])

    def test_several_of_one_day(self):
        roll = Roll(2, [
            (1, 0, "a", "comes", 1), (2, 0, "a", "comes", 0), (3, 4, "a", "goes", None), (4, 4, "a", "barred", None),
            (5, 4, "a", "cleared", None), (6, 4, "a", "comes", 0), (7, 6, "a", "comes", 1), (8, 6, "a", "barred", None),
        ])
        self.assertEqual(stretches(roll, "a"), [(0, 0, False), (6, 1, True)])

    def test_by_the_plain_words(self):
        for seed in range(25):
            tellings = some_tellings(seed, 14)
            roll = Roll(3, tellings)
            for voter in VOTERS:
                due = []
                for day in range(12):
                    state = (plain_place(tellings, voter, day), plain_barred(tellings, voter, day))
                    if not due or due[-1][1:] != state:
                        due.append((day,) + state)
                self.assertEqual(stretches(roll, voter), due)

    def test_a_new_list(self):
        """[0.2]"""
        roll = Roll(1, [(1, 2, "a", "comes", 0)])
        stretches(roll, "a").clear()
        self.assertEqual(stretches(roll, "a"), [(0, None, False), (2, 0, False)])


class Moved(unittest.TestCase):
    """[3.5]"""

    ROLL = Roll(2, [
        (1, 0, "zed", "comes", 0), (2, 0, "al", "comes", 0), (3, 5, "al", "comes", 1), (4, 6, "cy", "comes", 1),
        (5, 7, "zed", "barred", None), (6, 0, "bob", "comes", 1),
    ])

    def test_either_order(self):
        self.assertEqual(moved(self.ROLL, 4, 7, 0), [("al", 0, 1), ("cy", None, 1), ("zed", 0, None)])
        self.assertEqual(moved(self.ROLL, 7, 4, 0), [("al", 1, 0), ("cy", 1, None), ("zed", None, 0)])
        self.assertEqual(moved(self.ROLL, 4, 4, 0), [])
        self.assertEqual(moved(self.ROLL, 4, 7, 3), [("zed", 0, None)])
        self.assertEqual(moved(Roll(1), 0, 9, 0), [])

    def test_sizes(self):
        self.assertEqual(sizes(self.ROLL, 4, 0), [2, 1])
        self.assertEqual(sizes(self.ROLL, 7, 0), [0, 3])
        self.assertEqual(sizes(self.ROLL, 7, 3), [1, 1])
        self.assertEqual(sizes(self.ROLL, 2, 3), [0, 0])
        self.assertEqual(sizes(Roll(6), 5, 0), [0] * 6)

    def test_by_the_plain_words(self):
        for seed in range(15):
            tellings = some_tellings(seed, 14)
            roll = Roll(3, tellings)
            for wait in (0, 2):
                homes = [[plain_votes_in(tellings, voter, day, wait) for voter in VOTERS] for day in range(10)]
                for before in range(10):
                    self.assertEqual(sizes(roll, before, wait), [homes[before].count(area) for area in range(3)])
                    for after in (0, 4, 9):
                        rows = [row for row in zip(VOTERS, homes[before], homes[after]) if row[1] != row[2]]
                        self.assertEqual(moved(roll, before, after, wait), rows)


class DayFrom(unittest.TestCase):
    """[3.5]"""

    def test_above_the_greatest_day(self):
        roll = Roll(1, [(1, MOST, "a", "comes", 0)])
        self.assertEqual(day_from(roll, "a", 0, 0), MOST)
        self.assertEqual(day_from(roll, "a", 0, 1), MOST + 1)
        self.assertEqual(day_from(roll, "a", 0, MOST), 2 * MOST)

    def test_day_nought_and_none(self):
        roll = Roll(2, [(1, 0, "a", "comes", 0), (2, 3, "b", "comes", 1), (3, 5, "b", "goes", None), (4, 0, "c", "barred", None)])
        self.assertEqual(day_from(roll, "a", 0, 0), 0)
        self.assertEqual(day_from(roll, "a", 0, 4), 4)
        self.assertIsNone(day_from(roll, "a", 1, 0))
        self.assertEqual(day_from(roll, "b", 1, 1), 4)
        self.assertIsNone(day_from(roll, "b", 1, 2))
        self.assertIsNone(day_from(roll, "c", 0, 0))
        self.assertIsNone(day_from(roll, "nobody", 0, 0))

    def test_gone_and_come_back(self):
        roll = Roll(2, [(1, 0, "a", "comes", 0), (2, 3, "a", "goes", None), (3, 9, "a", "comes", 1), (4, 9, "a", "barred", None), (5, 10, "a", "cleared", None)])
        self.assertIsNone(day_from(roll, "a", 0, 5))
        self.assertEqual(day_from(roll, "a", 0, 8), 10)
        self.assertEqual(day_from(roll, "a", 1, 0), 10)
        self.assertEqual(day_from(roll, "a", 1, 2), 11)

    def test_by_the_plain_words(self):
        for seed in range(25):
            tellings = some_tellings(seed, 14)
            roll = Roll(3, tellings)
            for voter in VOTERS:
                for wait in (0, 1, 3, 7):
                    homes = [plain_votes_in(tellings, voter, day, wait) for day in range(25)]
                    for area in range(3):
                        due = homes.index(area) if area in homes else None
                        self.assertEqual(day_from(roll, voter, area, wait), due)


class Touched(unittest.TestCase):
    """[3.6]"""

    COMES = (1, 2, "ann", "comes", 0)
    UNLIKE = (1, 3, "bob", "comes", 1)

    def test_one_that_has_not_come_and_one_that_has(self):
        self.assertEqual(touched(Roll(2), self.COMES, 2, 0), [("ann", None, 0)])
        self.assertEqual(touched(Roll(2), self.COMES, 1, 0), [])
        self.assertEqual(touched(Roll(2, [self.COMES]), self.COMES, 2, 0), [("ann", 0, None)])

    def test_unlike_ones_of_one_number(self):
        roll = Roll(2, [self.COMES])
        self.assertEqual(touched(roll, self.UNLIKE, 5, 0), [("ann", 0, None)])
        both = Roll(2, [self.COMES, self.UNLIKE])
        self.assertEqual(touched(both, self.UNLIKE, 5, 0), [("ann", None, 0)])
        self.assertEqual(touched(both, (1, 4, "cy", "comes", 1), 5, 0), [])
        home = Roll(2, [(7, 0, "bob", "comes", 0), (8, 0, "ann", "comes", 1), self.COMES])
        self.assertEqual(touched(home, (7, 0, "zed", "goes", None), 5, 0), [("bob", 0, None)])
        several = Roll(2, [(1, 0, "b", "comes", 0), (2, 4, "a", "comes", 1), (2, 4, "b", "comes", 1)])
        self.assertEqual(touched(several, (2, 4, "b", "comes", 1), 5, 0), [("a", None, 1)])
        self.assertEqual(touched(several, (2, 4, "a", "comes", 1), 5, 0), [("b", 0, 1)])

    def test_the_roll_stays(self):
        roll = Roll(2, [self.COMES])
        touched(roll, self.COMES, 5, 0)
        touched(roll, self.UNLIKE, 5, 0)
        self.assertEqual(roll.told(), [self.COMES])

    def test_by_the_plain_words(self):
        for seed in range(15):
            tellings = some_tellings(seed, 12)
            roll = Roll(3, tellings)
            for telling in tellings + some_tellings(seed + 100, 12):
                if telling in tellings:
                    others = [other for other in tellings if other != telling]
                else:
                    others = tellings + [telling]
                for day in (3, 8):
                    rows = [(v, plain_votes_in(tellings, v, day, 1), plain_votes_in(others, v, day, 1)) for v in VOTERS]
                    self.assertEqual(touched(roll, telling, day, 1), [row for row in rows if row[1] != row[2]])
