import itertools
import random
import unittest
from fractions import Fraction

from tests.draws import any_lots, any_sheet, is_told_anew, votes_sheet
from tests.things import anything_but_numbers, anything_but_tuples
from wholepoll.errors import NoWay
from wholepoll.lists import Lists, votes_of
from wholepoll.sheets import ballots_in, joined

EXAMPLE = [((1,), 6), ((2,), 3), ((3,), 2), ((4, 1), 1)]
HUGE = 10 ** 60 - 1


def worth(mark):
    return None if mark is None else Fraction(mark[0], mark[1])


def as_told(mark):
    return None if mark is None else (mark.numerator, mark.denominator)


def plain_counted(sheet, way):
    """[6.23] to [6.26], with Python's own fractions."""
    votes = [sum(many for slip, many in sheet if slip[:1] == (1 << hand,)) for hand in range(way.hands)]
    ballots = sum(many for slip, many in sheet)
    least = 1
    while Fraction(least) < Fraction(*way.hurdle) * ballots:
        least += 1
    had, rounds = [0] * way.hands, []
    for _ in range(way.seats):
        marks = [Fraction(v, 1 + way.step * h) if v >= least else None for v, h in zip(votes, had)]
        if all(mark is None for mark in marks):
            break
        best = max(mark for mark in marks if mark is not None)
        hand = min((hand for hand in range(way.hands) if marks[hand] == best), key=way.lots.index)
        rounds.append(([as_told(mark) for mark in marks], hand))
        had[hand] += 1
    return (votes + [ballots - sum(votes)], least, rounds)


def drawn_way(draw, hands=None):
    hands = hands or draw.choice((1, 2, 3, 4))
    hurdle = draw.choice((None, (0, 1), (1, 20), (1, 5), (1, 3), (1, 2), (2, 3), (1, 1)))
    return Lists(hands, draw.randint(1, 9), any_lots(draw, hands), hurdle, draw.randint(1, 3))


class Votes(unittest.TestCase):
    """[6.21]"""

    def test_votes(self):
        self.assertEqual(votes_of(EXAMPLE, 3), [6, 3, 1, 2])
        self.assertEqual(votes_of([((1,), 1), ((1, 2), 2), ((1, 6), 4), ((2, 1), 8)], 3), [7, 8, 0, 0])

    def test_idle_ballots(self):
        self.assertEqual(votes_of([((), 5)], 2), [0, 0, 5])
        self.assertEqual(votes_of([((), 5), ((3,), 2), ((3, 4), 1), ((7,), 1)], 3), [0, 0, 0, 9])
        self.assertEqual(votes_of([((6, 1), 3)], 3), [0, 0, 0, 3])
        self.assertEqual(votes_of([], 1), [0, 0])

    def test_twelve_hands(self):
        sheet = [((1 << hand,), 10 ** 9 + hand) for hand in range(12)]
        self.assertEqual(votes_of(sheet, 12), [10 ** 9 + hand for hand in range(12)] + [0])

    def test_they_come_to_all_ballots(self):
        draw = random.Random(621)
        for _ in range(100):
            hands = draw.choice((1, 2, 5, 12))
            sheet = any_sheet(draw, hands)
            votes = votes_of(sheet, hands)
            self.assertEqual((len(votes), sum(votes)), (hands + 1, ballots_in(sheet)))
            self.assertTrue(is_told_anew(lambda: votes_of(sheet, hands)))


class Made(unittest.TestCase):
    """[6.22]"""

    def test_hurdle_and_step(self):
        way = Lists(3, 4)
        self.assertEqual((way.hands, way.seats, way.lots, way.hurdle, way.step), (3, 4, [0, 1, 2], (0, 1), 1))
        for hurdle in ((0, 1), (1, 1), (1, 2), (3, 4), (1, HUGE), (HUGE - 1, HUGE)):
            self.assertEqual(Lists(3, 4, None, hurdle).hurdle, hurdle)
        for step in range(1, 10):
            self.assertEqual(Lists(3, 4, [0, 1, 2], None, step).step, step)
        self.assertEqual(Lists(3, 4, [2, 1, 0], None).hurdle, (0, 1))

    def test_no_hurdle(self):
        for hurdle in [
            (2, 4), (0, 2), (2, 2), (0, 0), (1, 0), (2, 1), (-1, 2), (1, -2), (-1, -2), (-1, -1), (0, -1), (3, 2), [1, 2],
            (1,), (1, 2, 3), (), (True, 1), (1, True), (False, 1), (0, True), ("0", 1), (0, None), ((0, 1),), ((0, 1), 1),
            (HUGE, HUGE - 1), (HUGE, HUGE), "12", 0, 1,
        ]:
            with self.assertRaises(NoWay):
                Lists(3, 4, None, hurdle)
        for thing in anything_but_tuples():
            if thing is not None:
                with self.assertRaises(NoWay):
                    Lists(3, 4, None, thing)
        for thing in anything_but_numbers():
            for hurdle in ((thing, 1), (0, thing), (thing, thing)):
                with self.assertRaises(NoWay):
                    Lists(3, 4, None, hurdle)

    def test_no_step(self):
        for step in [0, 10, -1, HUGE] + anything_but_numbers():
            with self.assertRaises(NoWay):
                Lists(3, 4, None, None, step)

    def test_any_of_the_five(self):
        for wrong in ((0, 4), (3, 0), (3, 4, [0, 1]), (3, 4, (0, 1, 2)), (3, 4, None, (2, 4)), (3, 4, None, (0, 1), 10)):
            with self.assertRaises(NoWay):
                Lists(*wrong)


class Needed(unittest.TestCase):
    """[6.23] [6.24]"""

    def test_least_votes(self):
        way = Lists(3, 4, None, (1, 20))
        told = [way.least_votes(ballots) for ballots in (41, 40, 21, 20, 19, 1, 0)]
        self.assertEqual(told, [3, 2, 2, 1, 1, 1, 1])
        for ballots in (0, 1, 7, 10 ** 12):
            self.assertEqual(Lists(3, 4).least_votes(ballots), 1)
            self.assertEqual(Lists(3, 4, None, (1, 1)).least_votes(ballots), max(1, ballots))
        self.assertEqual(Lists(3, 4, None, (2, 3)).least_votes(10 ** 12), 666666666667)
        self.assertEqual(Lists(3, 4, None, (1, HUGE)).least_votes(10 ** 12), 1)

    def test_mark(self):
        way = Lists(3, 4)
        self.assertEqual([way.mark(6, had) for had in range(5)], [(6, 1), (3, 1), (2, 1), (3, 2), (6, 5)])
        self.assertEqual([Lists(3, 4, None, None, 2).mark(6, had) for had in range(4)], [(6, 1), (2, 1), (6, 5), (6, 7)])
        self.assertEqual(Lists(3, 4, None, None, 9).mark(20, 1), (2, 1))
        self.assertEqual(way.mark(0, 3), (0, 1))
        self.assertEqual(way.mark(HUGE, HUGE), (HUGE, HUGE + 1))


class Counted(unittest.TestCase):
    """[6.25] [6.26]"""

    def test_the_example(self):
        """[6.27]"""
        way = Lists(3, 4)
        self.assertEqual(way.counted(EXAMPLE), ([6, 3, 1, 2], 1, [
            ([(6, 1), (3, 1), (1, 1)], 0), ([(3, 1), (3, 1), (1, 1)], 0), ([(2, 1), (3, 1), (1, 1)], 1),
            ([(2, 1), (3, 2), (1, 1)], 0),
        ]))
        self.assertEqual(way.outcome(EXAMPLE), [3, 1, 0])

    def test_just_at_the_hurdle(self):
        # Of 40 ballots the empty ones count for the hurdle as well.
        sheet = [((), 20), ((1,), 16), ((2,), 2), ((4,), 1), ((5,), 1)]
        for hurdle, due in (((1, 20), [8, 1, 0]), ((1, 21), [8, 1, 0]), ((1, 19), [9, 0, 0]), ((2, 5), [9, 0, 0])):
            self.assertEqual(Lists(3, 9, None, hurdle).outcome(sheet), due)
        self.assertEqual(Lists(3, 9, None, (1, 20)).counted(sheet)[2][0][0], [(16, 1), (2, 1), None])
        self.assertEqual(Lists(3, 9, None, (1, 19)).counted(sheet)[2][0][0], [(16, 1), None, None])

    def test_nobody_takes_part(self):
        for sheet, hurdle, least in (
            ([], None, 1), ([((), 5)], None, 1), ([((3,), 4)], (0, 1), 1), ([((1,), 2), ((2,), 2)], (3, 4), 3),
            ([((1,), 9), ((), 1)], (1, 1), 10), ([], (1, 1), 1),
        ):
            way = Lists(2, 3, None, hurdle)
            self.assertEqual(way.counted(sheet)[1:], (least, []))
            self.assertEqual(way.outcome(sheet), [0, 0])

    def test_even_marks_are_parted_by_lots(self):
        sheet = [((1,), 4), ((2,), 4), ((4,), 2)]
        for order in itertools.permutations(range(3)):
            way = Lists(3, 3, list(order))
            hands = [hand for marks, hand in way.counted(sheet)[2]]
            first = [hand for hand in order if hand < 2]
            self.assertEqual(hands, first + [order[0]])

    def test_one_hand_with_all_seats(self):
        self.assertEqual(Lists(1, 60).outcome([((1,), 1)]), [60])
        self.assertEqual(Lists(3, 60).outcome([((), 9), ((2, 1), 1)]), [0, 60, 0])
        told = Lists(1, 3, None, None, 2).counted([((1,), 5)])
        self.assertEqual(told, ([5, 0], 1, [([(5, 1)], 0), ([(5, 3)], 0), ([(1, 1)], 0)]))

    def test_more_hands_than_seats_or_fewer(self):
        sheet = [((1 << hand,), 12 - hand) for hand in range(12)]
        self.assertEqual(Lists(12, 1).outcome(sheet), [1] + [0] * 11)
        self.assertEqual(sum(Lists(12, 60).outcome(sheet)), 60)

    def test_steps(self):
        sheet = [((1,), 53), ((2,), 24), ((4,), 23)]
        self.assertEqual(Lists(3, 7, None, None, 1).outcome(sheet), [4, 2, 1])
        self.assertEqual(Lists(3, 7, None, None, 2).outcome(sheet), [3, 2, 2])
        self.assertEqual(Lists(3, 5, None, None, 9).outcome(sheet), [3, 1, 1])

    def test_drawn(self):
        draw = random.Random(625)
        for _ in range(300):
            way = drawn_way(draw)
            sheet = votes_sheet(draw, way.hands)
            told = way.counted(sheet)
            self.assertEqual(told, plain_counted(sheet, way))
            due = [sum(1 for marks, winner in told[2] if winner == hand) for hand in range(way.hands)]
            self.assertEqual(way.outcome(sheet), due)
            self.assertEqual(way.told_by(told), due)

    def test_great_numbers(self):
        sheet = [((1,), 10 ** 12 // 3), ((2,), 10 ** 12 // 3 + 1), ((4,), 7)]
        way = Lists(3, 60, [2, 1, 0], (1, HUGE), 7)
        self.assertEqual(way.counted(sheet), plain_counted(sheet, way))

    def test_what_is_told_is_the_askers_own(self):
        """[0.2]"""
        way, sheet = Lists(3, 4, [2, 1, 0]), list(EXAMPLE)
        self.assertTrue(is_told_anew(lambda: way.counted(sheet)))
        self.assertTrue(is_told_anew(lambda: way.outcome(sheet)))
        paper = way.counted(sheet)
        self.assertTrue(is_told_anew(lambda: way.told_by(paper)))
        self.assertEqual((sheet, way.lots, paper), (EXAMPLE, [2, 1, 0], way.counted(EXAMPLE)))


def is_settled(way, votes, least, seats):
    """[6.28] Whether no hand waits with a mark that goes ahead of another one's last."""
    for one, other in itertools.permutations(range(way.hands), 2):
        if seats[one] > 0 and votes[other] >= least:
            last, waits = Fraction(votes[one], 1 + way.step * (seats[one] - 1)), Fraction(votes[other], 1 + way.step * seats[other])
            if last < waits or (last == waits and not way.ahead(one, other)):
                return False
    return all(votes[hand] >= least or seats[hand] == 0 for hand in range(way.hands))


class Sentences(unittest.TestCase):
    """[6.28]"""

    def test_one_outcome_alone(self):
        draw = random.Random(1)
        for _ in range(120):
            way = drawn_way(draw, draw.choice((2, 3)))
            sheet = votes_sheet(draw, way.hands)
            votes, least, rounds = way.counted(sheet)
            found = []
            for seats in itertools.product(range(way.seats + 1), repeat=way.hands):
                if sum(seats) == way.seats and is_settled(way, votes, least, seats):
                    found.append(list(seats))
            self.assertEqual(found, [way.outcome(sheet)] if rounds else [])

    def test_one_seat_more(self):
        draw = random.Random(2)
        for _ in range(60):
            way = drawn_way(draw)
            sheet = votes_sheet(draw, way.hands)
            former = [0] * way.hands
            for seats in range(1, 12):
                told = Lists(way.hands, seats, way.lots, way.hurdle, way.step).outcome(sheet)
                more = sorted(new - old for new, old in zip(told, former))
                self.assertEqual(more, [0] * (way.hands - 1) + [1] if sum(told) else [0] * way.hands)
                former = told

    def test_those_that_take_no_part_go_idle(self):
        draw = random.Random(3)
        for _ in range(100):
            way = drawn_way(draw)
            sheet = votes_sheet(draw, way.hands)
            votes, least, _ = way.counted(sheet)
            slips = {(1 << hand,): () for hand in range(way.hands) if votes[hand] < least}
            other = joined([[(slips.get(slip[:1], slip), many) for slip, many in sheet]])
            self.assertEqual(way.outcome(other), way.outcome(sheet))

    def test_a_hand_that_gets_all_votes_of_one_behind(self):
        draw = random.Random(4)
        for _ in range(100):
            hands = draw.choice((2, 3, 4))
            way = Lists(hands, draw.randint(1, 9), any_lots(draw, hands))
            sheet = votes_sheet(draw, hands)
            before = way.outcome(sheet)
            for one, other in itertools.permutations(range(hands), 2):
                if way.ahead(one, other):
                    turned = [((1 << one,) if slip[:1] == (1 << other,) else slip, many) for slip, many in sheet]
                    after = way.outcome(joined([turned]))
                    self.assertGreaterEqual(after[one], before[one] + before[other])
