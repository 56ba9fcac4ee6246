import copy
import itertools
import random
import unittest
from fractions import Fraction

from tests.draws import any_lots, is_told_anew, sheets_from, sheets_of, votes_sheet
from tests.test_lists import EXAMPLE, HUGE
from wholepoll.listmargin import ListsMargin
from wholepoll.lists import Lists, votes_of
from wholepoll.sheets import ballots_in, changed, joined

HURDLES = (None, (1, 20), (1, 5), (1, 3), (1, 2), (2, 3), (1, 1))


def goes_ahead(way, one, first, other, second):
    return first > second or (first == second and way.ahead(one, other))


def plain_cases(sheet, way):
    """[7.21]"""
    votes, ballots = votes_of(sheet, way.hands), ballots_in(sheet)
    least, seats = way.least_votes(ballots), way.outcome(sheet)
    if all(votes[hand] < least for hand in range(way.hands)):
        return [("rise", None, hand, least - votes[hand]) for hand in range(way.hands)]
    cases = []
    for b in range(way.hands):
        if seats[b] == 0:
            continue
        cases.append(("fall", b, None, votes[b] - least + 1))
        for a in range(way.hands):
            if a != b:
                k = 0
                while not (votes[a] + k >= least and (votes[b] - k < least or goes_ahead(
                        way, a, Fraction(votes[a] + k, 1 + way.step * seats[a]),
                        b, Fraction(votes[b] - k, 1 + way.step * (seats[b] - 1))))):
                    k += 1
                cases.append(("pass", b, a, k))
    return cases


def plain_held(seen, unseen, known, way):
    """[7.24]"""
    seats, least = way.outcome(known), way.least_votes(ballots_in(known))
    votes, among = votes_of(seen, way.hands), range(way.hands)
    if unseen == 0:
        return True
    if sum(seats) == 0 and any(votes[a] + unseen >= least for a in among):
        return False
    if any(seats[b] > 0 and votes[b] < least for b in among):
        return False
    for a, b in itertools.permutations(among, 2):
        if seats[b] > 0 and votes[a] + unseen >= least and goes_ahead(
                way, a, Fraction(votes[a] + unseen, 1 + way.step * seats[a]),
                b, Fraction(votes[b], 1 + way.step * (seats[b] - 1))):
            return False
    return True


def drawn_way(draw, hands=None):
    hands = hands or draw.choice((1, 2, 3, 4))
    return Lists(hands, draw.randint(1, 6), any_lots(draw, hands), draw.choice(HURDLES), draw.randint(1, 3))


def lists_slips(hands):
    """A slip for each thing that a ballot can be by lists."""
    return [()] + [(1 << hand,) for hand in range(hands)]


def spoilt_cases(cases):
    for at, case in enumerate(cases):
        word, b, a, need = case
        for other in (
            ("fall" if word != "fall" else "pass", b, a, need), ("", b, a, need), ("rise" if word != "rise" else "fall", b, a, need),
            (word, 0 if b is None else None, a, need), (word, b, 0 if a is None else None, need), (word, b, a, need + 1),
            (word, b, a, need - 1), (word, b, a, HUGE), (word, b, a, -need), (word, HUGE, a, need), (word, b, HUGE, need),
            (word, a, b, need),
        ):
            if other != case:
                yield cases[:at] + [other] + cases[at + 1:]
        yield cases[:at] + cases[at + 1:]
        yield cases[:at] + [case] + cases[at:]
        for other in range(at):
            rows = list(cases)
            rows[at], rows[other] = rows[other], rows[at]
            yield rows
    if cases:
        yield []
    yield cases + cases
    yield cases + [("pass", 0, 1, 1)]


class Possible(unittest.TestCase):
    """[7.21]"""

    def test_possible(self):
        for way in (Lists(3, 1), Lists(3, 3), Lists(3, 60), Lists(1, 1), Lists(2, 1, None, (1, 1))):
            margin = ListsMargin(way)
            self.assertIs(margin.way, way)
            self.assertIs(margin.possible([((), 1)]), True)
            self.assertIs(margin.possible([((1,), 1)]), True)
            self.assertIs(margin.possible([]), False)
            self.assertIsNone(margin.told([]))


class Cases(unittest.TestCase):
    """[7.21] [7.22]"""

    def test_the_example(self):
        # Seats are 3, 1, 0: the last of hand 0 had the mark 2, that of hand 1 the mark 3.
        self.assertEqual(ListsMargin(Lists(3, 4)).least(EXAMPLE), (1, [
            ("fall", 0, None, 6), ("pass", 0, 1, 1), ("pass", 0, 2, 1), ("fall", 1, None, 3), ("pass", 1, 0, 2),
            ("pass", 1, 2, 2),
        ]))

    def test_nobody_takes_part(self):
        sheet = [((), 5), ((1,), 2), ((2,), 3)]
        margin = ListsMargin(Lists(3, 2, None, (1, 2)))
        cases = [("rise", None, 0, 3), ("rise", None, 1, 2), ("rise", None, 2, 5)]
        self.assertEqual(margin.least(sheet), (2, cases))
        self.assertEqual(margin.high(sheet)[::2], (2, None))
        self.assertEqual(ListsMargin(Lists(1, 2)).least([((), 5)]), (1, [("rise", None, 0, 1)]))
        # Ballots that are votes for the hand already are no help, those with it in a first tier of several are.
        sheet = [((1,), 2), ((1, 2), 3), ((3,), 2)]
        self.assertEqual(ListsMargin(Lists(2, 1, None, (1, 1))).high(sheet), (2, [((3,), (1,), 2)], None))

    def test_one_hand(self):
        margin = ListsMargin(Lists(1, 3, None, (1, 2)))
        self.assertEqual(margin.least([((), 2), ((1,), 6)]), (3, [("fall", 0, None, 3)]))
        self.assertEqual(margin.high([((), 2), ((1,), 6)]), (3, [((1,), (), 3)], None))

    def test_even_marks(self):
        # With one ballot moved both have five; so the lots tell whether one is enough.
        sheet = [((1,), 6), ((2,), 4)]
        for lots, need in (([0, 1], 2), ([1, 0], 1)):
            margin = ListsMargin(Lists(2, 1, lots))
            self.assertEqual(margin.least(sheet), (need, [("fall", 0, None, 6), ("pass", 0, 1, need)]))

    def test_drawn(self):
        draw = random.Random(721)
        words = {"fall": 0, "pass": 0, "rise": 0}
        for _ in range(400):
            way = drawn_way(draw)
            sheet = votes_sheet(draw, way.hands, draw.choice((3, 9, 40)))
            if not sheet:
                continue
            margin = ListsMargin(way)
            low, cases = margin.least(sheet)
            self.assertEqual(cases, plain_cases(sheet, way))
            self.assertEqual(low, min(case[3] for case in cases))
            self.assertGreaterEqual(low, 1)
            words[[case[0] for case in cases if case[3] == low][0]] += 1
            high, change, pair = margin.high(sheet)
            self.assertEqual((high, pair, sum(row[2] for row in change)), (low, None, low))
            self.assertNotEqual(way.outcome(changed(sheet, change)), way.outcome(sheet))
            self.assertEqual(margin.told(sheet), (low, low, cases, change))
        self.assertGreater(min(words.values()), 20)

    def test_great_numbers(self):
        sheet = [((1,), 10 ** 12 // 2), ((2,), 10 ** 12 // 3), ((4,), 5)]
        way = Lists(3, 60, None, (1, 1000), 2)
        low, cases = ListsMargin(way).least(sheet)
        change = ListsMargin(way).high(sheet)[1]
        self.assertNotEqual(way.outcome(changed(sheet, change)), way.outcome(sheet))
        for word, b, a, need in cases:
            if word == "pass" and need > 1:
                fewer = changed(sheet, [((1 << b,), (1 << a,), need - 1)])
                self.assertEqual(way.outcome(fewer), way.outcome(sheet))
        self.assertEqual(low, min(case[3] for case in cases))

    def test_just_the_fewest(self):
        """[7.22] Of fewer ballots no change makes another outcome: a going through of all changes."""
        draw = random.Random(722)
        met = {}
        for _ in range(150):
            way = drawn_way(draw, draw.choice((1, 2, 3)))
            sheet = votes_sheet(draw, way.hands, draw.choice((2, 4)))
            if not 0 < ballots_in(sheet) <= 12:
                continue
            low = ListsMargin(way).least(sheet)[0]
            outcome = way.outcome(sheet)
            others = sheets_from(sheet, lists_slips(way.hands), min(low, 4))
            fewest = [many for other, many in others if way.outcome(other) != outcome]
            self.assertEqual(min(fewest, default=5), low if low <= 4 else 5)
            met[low] = met.get(low, 0) + 1
        self.assertGreater(len(met), 3)

    def test_what_is_told_is_the_askers_own(self):
        """[0.2]"""
        margin, sheet = ListsMargin(Lists(3, 4)), list(EXAMPLE)
        for ask in (lambda: margin.least(sheet), lambda: margin.high(sheet), lambda: margin.told(sheet)):
            self.assertTrue(is_told_anew(ask))
        cases = margin.least(sheet)[1]
        kept = copy.deepcopy(cases)
        margin.shows(sheet, 1, cases)
        margin.held(sheet, 2, sheet)
        self.assertEqual((sheet, cases), (EXAMPLE, kept))


class Shows(unittest.TestCase):
    """[7.23]"""

    def test_just_the_list_of_cases(self):
        sheets = ([((), 5), ((1,), 2), ((2,), 3)], EXAMPLE, [((1,), 9)], [((), 1)])
        for sheet, way in itertools.product(sheets, (Lists(3, 4), Lists(3, 2, None, (1, 2)), Lists(3, 1, [2, 1, 0], None, 2))):
            margin = ListsMargin(way)
            low, cases = margin.least(sheet)
            for number in (low, low - 1, 1, 0, -1, -HUGE):
                self.assertIs(margin.shows(sheet, number, cases), number <= low)
            for number in (low + 1, HUGE):
                self.assertIs(margin.shows(sheet, number, cases), False)
            for other in spoilt_cases(cases):
                if other != cases:
                    self.assertIs(margin.shows(sheet, -HUGE, other), False, other)

    def test_papers_of_other_sheets(self):
        margin = ListsMargin(Lists(3, 4))
        cases = margin.least(EXAMPLE)[1]
        self.assertIs(margin.shows(EXAMPLE[1:], 1, cases), False)
        # Another sheet with the same votes has the same cases.
        self.assertIs(margin.shows([((1,), 6), ((2,), 3), ((4,), 1), ((6,), 2)], 1, cases), True)


class Held(unittest.TestCase):
    """[7.24]"""

    def test_each_way_to_fall(self):
        margin = ListsMargin(Lists(2, 1, None, (1, 2)))
        self.assertIs(margin.held([((), 6)], 4, [((), 10)]), True)
        self.assertIs(margin.held([((), 5)], 5, [((), 10)]), False)
        self.assertIs(margin.held([((), 5), ((1,), 4)], 1, [((), 6), ((1,), 4)]), False)
        self.assertIs(margin.held([((), 5), ((1,), 5)], 0, [((), 5), ((1,), 5)]), True)
        self.assertIs(margin.held([((), 4), ((1,), 5)], 1, [((), 5), ((1,), 5)]), True)
        self.assertIs(margin.held([((), 5), ((1,), 4)], 1, [((), 5), ((1,), 5)]), False)
        for lots, due in (([0, 1], True), ([1, 0], False)):
            margin = ListsMargin(Lists(2, 1, lots))
            self.assertIs(margin.held([((1,), 5), ((2,), 3)], 2, [((), 2), ((1,), 5), ((2,), 3)]), due)
            self.assertIs(margin.held([((1,), 5), ((2,), 3)], 1, [((), 1), ((1,), 5), ((2,), 3)]), True)
            self.assertIs(margin.held([((1,), 5), ((2,), 3)], 3, [((), 3), ((1,), 5), ((2,), 3)]), False)
        self.assertIs(ListsMargin(Lists(2, 1)).held([], 0, []), True)

    def test_by_the_words(self):
        draw = random.Random(724)
        counts = {True: 0, False: 0}
        for _ in range(600):
            way = drawn_way(draw)
            seen = votes_sheet(draw, way.hands, draw.choice((4, 20)))
            rest = votes_sheet(draw, way.hands, 1)
            known = joined([seen, rest])
            told = ListsMargin(way).held(seen, ballots_in(rest), known)
            self.assertIs(told, plain_held(seen, ballots_in(rest), known, way))
            counts[told] += 1
        self.assertGreater(min(counts.values()), 80)

    def test_exact(self):
        """[7.24] A going through of all unseen ballots."""
        draw = random.Random(24)
        counts = {True: 0, False: 0}
        for _ in range(250):
            way = drawn_way(draw, draw.choice((1, 2, 3)))
            seen, unseen = votes_sheet(draw, way.hands, draw.choice((2, 5, 9))), draw.choice((0, 1, 2, 3))
            every = [joined([seen, rest]) for rest in sheets_of(lists_slips(way.hands), unseen)]
            outcomes = {tuple(way.outcome(sheet)) for sheet in every}
            told = {ListsMargin(way).held(seen, unseen, known) for known in every}
            self.assertEqual(told, {len(outcomes) == 1})
            counts[len(outcomes) == 1] += 1
        self.assertGreater(min(counts.values()), 50)
