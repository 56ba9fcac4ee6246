import itertools
import random
import unittest
from fractions import Fraction

from tests.draws import any_lots, is_told_anew
from wholepoll.evening import evened_by, evening, waiting
from wholepoll.lands import Land
from wholepoll.lists import Lists
from wholepoll.pairs import Pairs


def land_of(hands, evened, lots=None, hurdle=None, step=1):
    """A land whose areas have lots, hurdles and steps of their own."""
    return Land([Lists(hands, 2, list(range(hands))[::-1], (1, 2), 5), Pairs(hands, 1)], evened, lots, hurdle, step)


def drawn_land(draw):
    hands = draw.choice((1, 2, 3, 4))
    hurdle = draw.choice((None, (1, 20), (1, 5), (1, 3), (1, 2), (1, 1)))
    return land_of(hands, draw.choice((0, 1, 2, 5, 9)), any_lots(draw, hands), hurdle, draw.randint(1, 3))


def as_told(mark):
    return None if mark is None else (mark.numerator, mark.denominator)


def plain_evening(land, votes, had):
    """[8.3]"""
    least = 1
    while Fraction(least) < Fraction(*land.hurdle) * sum(votes):
        least += 1
    seats, rounds = list(had), []
    for _ in range(land.evened):
        among = [hand for hand in range(land.hands) if votes[hand] >= least]
        if not among:
            break
        marks = {hand: Fraction(votes[hand], 1 + land.step * seats[hand]) for hand in among}
        hand = max(among, key=lambda one: (marks[one], -land.lots.index(one)))
        rounds.append(([as_told(marks.get(one)) for one in range(land.hands)], hand))
        seats[hand] += 1
    return (votes, least, rounds)


def plain_waiting(land, votes, had):
    """[8.4] Of all marks by any number of seats from had on, the greatest."""
    least = plain_evening(land, votes, had)[1]
    rows = []
    for hand in range(land.hands):
        if votes[hand] >= least:
            for seats in range(had[hand], had[hand] + land.evened):
                rows.append((-Fraction(votes[hand], 1 + land.step * seats), land.lots.index(hand), hand))
    return [(as_told(-mark), hand) for mark, _, hand in sorted(rows)[:land.evened]]


class Evening(unittest.TestCase):
    """[8.3]"""

    def test_ordinary(self):
        land = land_of(3, 3)
        told = evening(land, [12, 6, 2, 4], [4, 1, 0])
        self.assertEqual(told, ([12, 6, 2, 4], 1, [
            ([(12, 5), (3, 1), (2, 1)], 1), ([(12, 5), (2, 1), (2, 1)], 0), ([(2, 1), (2, 1), (2, 1)], 0),
        ]))
        self.assertEqual(evened_by(land, told), [2, 1, 0])

    def test_no_evened_seats(self):
        land = land_of(2, 0)
        self.assertEqual(evening(land, [5, 3, 1], [0, 9]), ([5, 3, 1], 1, []))
        self.assertEqual(evened_by(land, evening(land, [5, 3, 1], [0, 9])), [0, 0])
        self.assertEqual(waiting(land, [5, 3, 1], [0, 9]), [])

    def test_nobody_takes_part(self):
        for votes, hurdle, least in (([0, 0, 0], None, 1), ([0, 0, 7], (1, 5), 2), ([3, 3, 1], (1, 2), 4), ([5, 0, 1], (1, 1), 6)):
            land = land_of(2, 4, None, hurdle)
            self.assertEqual(evening(land, votes, [1, 2]), (votes, least, []))
            self.assertEqual(evened_by(land, (votes, least, [])), [0, 0])
            self.assertEqual(waiting(land, votes, [1, 2]), [])

    def test_the_hurdle_is_the_lands_of_all_ballots(self):
        # Idle ballots count for the hurdle; the areas' own hurdle does not.
        for hurdle, due in (((1, 10), [4, 1]), ((1, 11), [4, 1]), ((1, 9), [5, 0])):
            land = land_of(2, 5, None, hurdle)
            self.assertEqual(evened_by(land, evening(land, [9, 2, 9], [0, 0])), due)
        told = evening(land_of(2, 1, None, (1, 9)), [9, 2, 9], [0, 0])
        self.assertEqual(told, ([9, 2, 9], 3, [([(9, 1), None], 0)]))

    def test_even_marks_are_parted_by_the_lots_of_the_land(self):
        for order in itertools.permutations(range(3)):
            land = land_of(3, 3, list(order))
            told = evening(land, [4, 4, 4, 0], [0, 0, 0])
            self.assertEqual([hand for marks, hand in told[2]], list(order))
            self.assertEqual(waiting(land, [4, 4, 4, 0], [0, 0, 0]), [((4, 1), hand) for hand in order])

    def test_hands_that_have_seats_already(self):
        land = land_of(2, 2)
        self.assertEqual(evened_by(land, evening(land, [10, 6, 0], [0, 0])), [1, 1])
        self.assertEqual(evened_by(land, evening(land, [10, 6, 0], [3, 0])), [0, 2])
        self.assertEqual(evened_by(land, evening(land, [10, 6, 0], [0, 3])), [2, 0])
        self.assertEqual(evening(land, [10, 6, 0], [400, 400])[2][0], ([(10, 401), (6, 401)], 0))

    def test_steps(self):
        land = land_of(2, 2, None, None, 2)
        self.assertEqual(evening(land, [9, 4, 0], [1, 0])[2], [([(3, 1), (4, 1)], 1), ([(3, 1), (4, 3)], 0)])

    def test_drawn(self):
        draw = random.Random(83)
        for _ in range(300):
            land = drawn_land(draw)
            votes = [draw.randint(0, 12) for _ in range(land.hands + 1)]
            had = [draw.randint(0, 4) for _ in range(land.hands)]
            told = evening(land, votes, had)
            self.assertEqual(told, plain_evening(land, votes, had))
            seats = [sum(winner == hand for marks, winner in told[2]) for hand in range(land.hands)]
            self.assertEqual(evened_by(land, told), seats)

    def test_what_is_told_is_the_askers_own(self):
        """[0.2]"""
        land, votes, had = land_of(3, 3), [12, 6, 2, 4], [4, 1, 0]
        for ask in (lambda: evening(land, votes, had), lambda: waiting(land, votes, had)):
            self.assertTrue(is_told_anew(ask))
        paper = evening(land, votes, had)
        self.assertTrue(is_told_anew(lambda: evened_by(land, paper)))
        votes.append(7)
        had.clear()
        self.assertEqual(paper, evening(land, [12, 6, 2, 4], [4, 1, 0]))
        self.assertEqual((votes, had, land.lots), ([12, 6, 2, 4, 7], [], [0, 1, 2]))


class Waiting(unittest.TestCase):
    """[8.4]"""

    def test_ordinary(self):
        told = waiting(land_of(3, 4), [12, 6, 2, 4], [4, 1, 0])
        self.assertEqual(told, [((3, 1), 1), ((12, 5), 0), ((2, 1), 0), ((2, 1), 1)])

    def test_the_greatest_of_all_marks(self):
        draw = random.Random(84)
        for _ in range(300):
            land = drawn_land(draw)
            votes = [draw.randint(0, 12) for _ in range(land.hands + 1)]
            had = [draw.randint(0, 4) for _ in range(land.hands)]
            told = waiting(land, votes, had)
            self.assertEqual(told, plain_waiting(land, votes, had))
            rounds = evening(land, votes, had)[2]
            self.assertEqual([hand for mark, hand in told], [hand for marks, hand in rounds])

    def test_one_seat_more(self):
        draw = random.Random(4)
        for _ in range(60):
            land = drawn_land(draw)
            votes = [draw.randint(0, 12) for _ in range(land.hands + 1)]
            had = [draw.randint(0, 4) for _ in range(land.hands)]
            more = land_of(land.hands, land.evened + 1, land.lots, land.hurdle, land.step)
            before, after = waiting(land, votes, had), waiting(more, votes, had)
            self.assertEqual(after[:len(before)], before)
            self.assertIn(len(after), (0, land.evened + 1))
