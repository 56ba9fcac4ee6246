import itertools
import random
import unittest
from fractions import Fraction

from tests.draws import is_told_anew
from wholepoll.power import alike_seats, least_winning, shares, turns, wins
from wholepoll.ratios import total

HUGE = 10 ** 30 - 1


def plain_wins(seats, group):
    """[10.3]"""
    return Fraction(sum(many for hand, many in enumerate(seats) if group >> hand & 1)) > Fraction(sum(seats), 2)


def groups_of(seats):
    return range(1 << len(seats))


def plain_least_winning(seats):
    """[10.3]"""
    winning = [group for group in groups_of(seats) if plain_wins(seats, group)]
    return [group for group in winning if not any(one & group == one != group for one in winning)]


def plain_turns(seats):
    """[10.3]"""
    return [
        sum(not group >> hand & 1 and plain_wins(seats, group | 1 << hand) and not plain_wins(seats, group) for group in groups_of(seats))
        for hand in range(len(seats))
    ]


def plain_shares(seats):
    """[10.3] A going through of all orders."""
    first, orders = [0] * len(seats), list(itertools.permutations(range(len(seats))))
    for order in orders:
        so_far = 0
        for hand in order:
            so_far |= 1 << hand
            if plain_wins(seats, so_far):
                first[hand] += 1
                break
    return [(Fraction(many, len(orders)).numerator, Fraction(many, len(orders)).denominator) for many in first]


class Power(unittest.TestCase):
    """[10.3]"""

    def all_right(self, seats, orders=True):
        for group in groups_of(seats):
            self.assertIs(wins(seats, group), plain_wins(seats, group))
        self.assertEqual(least_winning(seats), plain_least_winning(seats))
        self.assertEqual(turns(seats), plain_turns(seats))
        if orders:
            self.assertEqual(shares(seats), plain_shares(seats))
        self.assertEqual(total(shares(seats)), (1, 1) if sum(seats) else (0, 1))

    def test_ordinary(self):
        seats = [4, 3, 2]
        self.assertEqual([wins(seats, group) for group in range(8)], [False] * 3 + [True] + [False] + [True] * 3)
        self.assertEqual(least_winning(seats), [0b011, 0b101, 0b110])
        self.assertEqual(turns(seats), [2, 2, 2])
        self.assertEqual(shares(seats), [(1, 3)] * 3)
        self.assertEqual(least_winning([5, 3, 1]), [1])
        self.assertEqual(turns([5, 3, 1]), [4, 0, 0])
        self.assertEqual(shares([50, 49, 1]), [(2, 3), (1, 6), (1, 6)])
        self.assertEqual(turns([50, 49, 1]), [3, 1, 1])

    def test_just_half_does_not_win(self):
        self.assertIs(wins([2, 1, 1], 1), False)
        self.assertIs(wins([2, 1, 1], 0b110), False)
        self.assertEqual(least_winning([2, 2]), [3])
        self.assertEqual(shares([2, 2]), [(1, 2), (1, 2)])

    def test_one_hand(self):
        self.all_right([1])
        self.assertEqual((least_winning([7]), turns([7]), shares([7])), ([1], [1], [(1, 1)]))
        self.assertEqual((least_winning([0]), turns([0]), shares([0])), ([], [0], [(0, 1)]))

    def test_eight_hands(self):
        for seats in ([1] * 8, [8, 7, 6, 5, 4, 3, 2, 1], [10, 1, 1, 1, 1, 1, 1, 1], [0, 3, 0, 3, 0, 3, 0, 0]):
            self.all_right(seats)

    def test_no_seats(self):
        for hands in range(1, 9):
            seats = [0] * hands
            self.all_right(seats, hands < 8)
            self.assertEqual((least_winning(seats), turns(seats), shares(seats)), ([], [0] * hands, [(0, 1)] * hands))
            self.assertIs(wins(seats, 0), False)
            self.assertIs(wins(seats, (1 << hands) - 1), False)

    def test_the_groups_nought_and_all(self):
        for seats in ([1], [0, 1], [3, 3, 3], [HUGE, 0]):
            self.assertIs(wins(seats, 0), False)
            self.assertIs(wins(seats, (1 << len(seats)) - 1), True)

    def test_large_seats(self):
        for seats in ([HUGE, HUGE - 1, 1], [HUGE, HUGE - 1], [HUGE, HUGE, 1], [HUGE, 0, HUGE - 1, 2]):
            self.all_right(seats)

    def test_drawn(self):
        draw = random.Random(103)
        for _ in range(120):
            self.all_right([draw.randint(0, draw.choice((1, 3, 20))) for _ in range(draw.randint(1, 6))])

    def test_alike_seats(self):
        self.assertIs(alike_seats([4, 3, 2], [1, 1, 1]), True)
        self.assertIs(alike_seats([4, 3, 2], [5, 3, 2]), False)
        self.assertIs(alike_seats([5, 3, 1], [1, 0, 0]), True)
        self.assertIs(alike_seats([0, 0], [0, 0]), True)
        self.assertIs(alike_seats([0, 0], [1, 1]), False)
        self.assertIs(alike_seats([HUGE, HUGE - 1], [1, 0]), True)
        draw, met = random.Random(3), {True: 0, False: 0}
        for _ in range(200):
            hands = draw.randint(1, 4)
            one, other = [[draw.randint(0, 4) for _ in range(hands)] for _ in range(2)]
            due = all(plain_wins(one, group) == plain_wins(other, group) for group in groups_of(one))
            self.assertIs(alike_seats(one, other), due)
            self.assertIs(alike_seats(other, one), due)
            met[due] += 1
        self.assertGreater(min(met.values()), 30)

    def test_what_is_told_is_the_askers_own(self):
        """[0.2]"""
        seats = [4, 3, 2]
        for ask in (least_winning, turns, shares):
            self.assertTrue(is_told_anew(lambda: ask(seats)))
        alike_seats(seats, seats)
        self.assertEqual(seats, [4, 3, 2])
