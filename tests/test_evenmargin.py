import itertools
import random
import unittest
from fractions import Fraction

from tests.draws import is_told_anew
from tests.test_evening import plain_evening
from tests.test_house import LAND, SHEETS, drawn_land, drawn_sheets
from wholepoll.evening import evened_by
from wholepoll.evenmargin import even_cases, even_least
from wholepoll.house import House
from wholepoll.lands import Land
from wholepoll.lists import Lists
from wholepoll.pairs import Pairs


def goes_ahead(land, one, first, other, second):
    return first > second or (first == second and land.ahead(one, other))


def facts(land, sheets):
    """Votes, seats of the areas, evened seats, and the votes needed to take part."""
    by_area, evened = House(land, sheets).outcome()
    votes = land.votes(sheets)
    return votes, [sum(column) for column in zip(*by_area)], evened, land.least_votes(sum(votes))


def plain_even_cases(land, sheets):
    """[9.1]"""
    votes, had, evened, least = facts(land, sheets)
    among, cases = range(land.hands), []
    if land.evened == 0 or sum(votes) == 0:
        return []
    if all(votes[hand] < least for hand in among):
        return [("rise", None, hand, least - votes[hand]) for hand in among]
    for b in among:
        if evened[b] == 0:
            continue
        cases.append(("fall", b, None, votes[b] - least + 1))
        for a in among:
            if a != b:
                k = 0
                while not (votes[a] + k >= least and (votes[b] - k < least or goes_ahead(
                        land, a, Fraction(votes[a] + k, 1 + land.step * (had[a] + evened[a])),
                        b, Fraction(votes[b] - k, 1 + land.step * (had[b] + evened[b] - 1))))):
                    k += 1
                cases.append(("pass", b, a, k))
    return cases


def all_votes(hands, ballots):
    """All votes that so many ballots can be."""
    for votes in itertools.product(range(ballots + 1), repeat=hands):
        if sum(votes) <= ballots:
            yield list(votes) + [ballots - sum(votes)]


def fewest_by_votes(land, votes, had):
    """The fewest ballots whose change makes other evened seats, the seats of the areas staying; None where none does."""
    now = evened_by(land, plain_evening(land, votes, had))
    found = []
    for other in all_votes(land.hands, sum(votes)):
        if evened_by(land, plain_evening(land, other, had)) != now:
            found.append(sum(max(0, one - more) for one, more in zip(votes, other)))
    return min(found, default=None)


def land_of(hands, evened, lots=None, hurdle=None, step=1):
    return Land([Pairs(hands, 1)], evened, lots, hurdle, step)


class Cases(unittest.TestCase):
    """[9.1]"""

    def test_none(self):
        sheet = [((1,), 6), ((2,), 3)]
        for land, sheets in ((land_of(2, 0), [sheet]), (land_of(2, 3), [[]]), (land_of(2, 0), [[]])):
            self.assertEqual(even_cases(land, sheets), [])
            self.assertIsNone(even_least(land, sheets))

    def test_nobody_takes_part(self):
        # The area's seat goes to hand 0 all the same; the hurdle asks for six of eleven.
        land = land_of(2, 3, None, (1, 2))
        sheets = [[((), 2), ((1,), 5), ((2,), 4)]]
        self.assertEqual(even_cases(land, sheets), [("rise", None, 0, 1), ("rise", None, 1, 2)])
        self.assertEqual(even_least(land, sheets), 1)
        self.assertEqual(even_cases(land_of(1, 1), [[((), 1)]]), [("rise", None, 0, 1)])

    def test_fall_and_pass(self):
        # Hand 0 has a seat of the area, and of two evened ones each hand has one: the mark of 8 and one seat is 4.
        land = land_of(2, 2)
        sheets = [[((1,), 8), ((2,), 5)]]
        self.assertEqual(House(land, sheets).outcome(), ([[1, 0]], [1, 1]))
        # Moving k to hand 1: (5 + k) / 2 against (8 - k) / 2; moving k to hand 0: (8 + k) / 3 against 5 - k.
        self.assertEqual(even_cases(land, sheets), [
            ("fall", 0, None, 8), ("pass", 0, 1, 2), ("fall", 1, None, 5), ("pass", 1, 0, 2),
        ])
        self.assertEqual(even_least(land, sheets), 2)

    def test_even_marks_with_either_hand_ahead_by_the_lots(self):
        # With one ballot moved both have five; the land's lots tell whether that is enough, the area's do not.
        sheets = [[((1, 4), 6), ((2, 4), 4)]]
        for lots, need in (([0, 1, 2], 2), ([1, 0, 2], 1)):
            for own in (None, [1, 0, 2]):
                land = Land([Pairs(3, 3, own)], 1, lots, (1, 5))
                self.assertEqual(House(land, sheets).of_evening(), [1, 0, 0])
                self.assertEqual(even_cases(land, sheets), [("fall", 0, None, 5), ("pass", 0, 1, need), ("pass", 0, 2, 4)])
                self.assertEqual(even_least(land, sheets), need)

    def test_hands_at_the_edge_of_those_that_take_part(self):
        sheet = [((1,), 12), ((2,), 4), ((4,), 3), ((), 1)]
        # Just enough, one too few, and one more than enough votes of twenty.
        for hurdle, due in (
            ((1, 5), [("fall", 0, None, 9), ("pass", 0, 1, 2), ("pass", 0, 2, 3), ("fall", 1, None, 1), ("pass", 1, 0, 1), ("pass", 1, 2, 1)]),
            ((1, 4), [("fall", 0, None, 8), ("pass", 0, 1, 3), ("pass", 0, 2, 4)]),
        ):
            land = land_of(3, 4, None, hurdle)
            told = even_cases(land, [sheet])
            self.assertEqual(told, plain_even_cases(land, [sheet]))
            self.assertEqual([case[:3] for case in told], [case[:3] for case in due])
            self.assertEqual(even_least(land, [sheet]), min(case[3] for case in told))
        self.assertIn(("fall", 1, None, 1), even_cases(land_of(3, 4, None, (1, 5)), [sheet]))

    def test_drawn(self):
        draw = random.Random(91)
        met = {"fall": 0, "pass": 0, "rise": 0, None: 0}
        for _ in range(400):
            land = drawn_land(draw, (Lists, Pairs))
            sheets = drawn_sheets(draw, land)
            told = even_cases(land, sheets)
            self.assertEqual(told, plain_even_cases(land, sheets))
            self.assertTrue(all(case[3] >= 1 for case in told))
            self.assertEqual(even_least(land, sheets), min((case[3] for case in told), default=None))
            for word in {case[0] for case in told} or {None}:
                met[word] += 1
        self.assertGreater(min(met.values()), 20)

    def test_large_numbers(self):
        land = land_of(2, 7, [1, 0], (1, 1000), 3)
        sheets = [[((), 5), ((1,), 10 ** 12 - 6), ((2,), 10 ** 9)]]
        for word, b, a, need in even_cases(land, sheets):
            if word == "pass":
                votes, had, evened, least = facts(land, sheets)
                for k, due in ((need - 1, False), (need, True)):
                    self.assertIs(votes[a] + k >= least and (votes[b] - k < least or goes_ahead(
                        land, a, Fraction(votes[a] + k, 1 + 3 * (had[a] + evened[a])),
                        b, Fraction(votes[b] - k, 1 + 3 * (had[b] + evened[b] - 1)))), due)

    def test_each_need_against_all_changes(self):
        """With the seats of the areas as they are, of fewer ballots no change makes other evened seats, and one of just so many does."""
        draw = random.Random(19)
        met = {}
        for _ in range(150):
            hands = draw.choice((1, 2, 3))
            hurdle = draw.choice((None, (1, 5), (1, 3), (1, 2), (1, 1)))
            land = land_of(hands, draw.randint(1, 5), draw.choice((None, list(range(hands))[::-1])), hurdle, draw.randint(1, 3))
            sheets = [[((1 << hand,), draw.randint(1, 4)) for hand in range(hands)]]
            if draw.random() < 0.4:
                sheets = [[((), draw.randint(1, 4))] + sheets[0][draw.randint(0, hands):]]
            votes, had, evened, least = facts(land, sheets)
            told = even_least(land, sheets)
            self.assertEqual(told, fewest_by_votes(land, votes, had))
            met[told] = met.get(told, 0) + 1
            now = evened_by(land, plain_evening(land, votes, had))
            for word, b, a, need in even_cases(land, sheets):
                moved = list(votes)
                taken_from = [b] if b is not None else [hand for hand in range(hands + 1) if hand != a]
                left = need
                for hand in taken_from:
                    many = min(left, moved[hand])
                    moved[hand], left = moved[hand] - many, left - many
                moved[hands if a is None else a] += need
                self.assertEqual(left, 0)
                self.assertNotEqual(evened_by(land, plain_evening(land, moved, had)), now)
        self.assertGreater(len(met), 3)

    def test_what_is_told_is_the_askers_own(self):
        """[0.2]"""
        sheets = [list(sheet) for sheet in SHEETS]
        self.assertTrue(is_told_anew(lambda: even_cases(LAND, sheets)))
        even_least(LAND, sheets)
        self.assertEqual(sheets, SHEETS)
