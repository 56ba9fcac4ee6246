import copy
import itertools
import random
import unittest
from fractions import Fraction

from tests.draws import is_told_anew, sheets_from, sheets_of, votes_sheet
from tests.spoils import HUGE, spoilt_list
from tests.test_evenmargin import facts, goes_ahead
from tests.test_house import LAND, NORTH, SHEETS, SOUTH, drawn_land, drawn_sheets
from tests.test_listmargin import lists_slips
from wholepoll.evenmargin import even_cases, even_least
from wholepoll.house import House
from wholepoll.landmargin import LandMargin
from wholepoll.lands import Land
from wholepoll.listmargin import ListsMargin
from wholepoll.lists import Lists
from wholepoll.pairmargin import PairsMargin
from wholepoll.pairs import Pairs
from wholepoll.sheets import ballots_in, changed, joined

BY_LISTS = Land([Lists(3, 2), Lists(3, 1, [2, 1, 0], (1, 3))], 2, [1, 0, 2], (1, 8))
BY_PAIRS = Land([Pairs(3, 1), Pairs(3, 2, [2, 0, 1])], 2, None, (1, 20), 2)
BY_BOTH = Land([Pairs(3, 1), Lists(3, 2)], 1)
BARE = Land([Pairs(3, 1), Lists(3, 2), Pairs(3, 3)])


def margin_of(way):
    return PairsMargin(way) if isinstance(way, Pairs) else ListsMargin(way)


def plain_lows(land, sheets):
    """[9.2]"""
    lows = []
    for way, sheet in zip(land.areas, sheets):
        margin = margin_of(way)
        lows.append(margin.least(sheet)[0] if margin.possible(sheet) else None)
    return lows + [even_least(land, sheets)]


def plain_shows(land, sheets, low, paper):
    """[9.3]"""
    if len(paper) != len(land.areas) + 1 or paper[-1] != even_cases(land, sheets):
        return False
    if any(case[3] < low for case in paper[-1]):
        return False
    for way, sheet, one in zip(land.areas, sheets, paper):
        margin = margin_of(way)
        if not margin.possible(sheet):
            if one is not None:
                return False
        elif one is None or not margin.shows(sheet, low, one):
            return False
    return True


def plain_even_held(land, seen, unseen, known):
    """[9.4] Of evening alone."""
    votes, (_, had, evened, least), among = land.votes(seen), facts(land, known), range(land.hands)
    if unseen == 0 or land.evened == 0:
        return True
    if sum(evened) == 0:
        return not any(votes[a] + unseen >= least for a in among)
    for b in among:
        if evened[b] > 0:
            if votes[b] < least:
                return False
            for a in among:
                if a != b and votes[a] + unseen >= least and goes_ahead(
                        land, a, Fraction(votes[a] + unseen, 1 + land.step * (had[a] + evened[a])),
                        b, Fraction(votes[b], 1 + land.step * (had[b] + evened[b] - 1))):
                    return False
    return True


def plain_held(land, seen, unseen, known):
    """[9.4]"""
    for way, sheet, many, told in zip(land.areas, seen, unseen, known):
        if not margin_of(way).held(sheet, many, told):
            return False
    return plain_even_held(land, seen, sum(unseen), known)


def changed_by(sheets, area, change):
    """The sheets behind what `high` tells."""
    if area is not None:
        return sheets[:area] + [changed(sheets[area], change)] + sheets[area + 1:]
    return [changed(sheet, [row[1:] for row in change if row[0] == one]) for one, sheet in enumerate(sheets)]


def small_land(draw, evened=(0, 1, 2, 4)):
    """A land by lists of few hands, and small sheets for it."""
    hands = draw.choice((1, 2, 2, 3))
    hurdle = (None, (1, 5), (1, 3), (1, 2), (1, 1))
    areas = [Lists(hands, draw.randint(1, 3), None, draw.choice(hurdle)) for _ in range(draw.choice((1, 2, 2, 3)))]
    lots = draw.choice((None, list(range(hands))[::-1]))
    land = Land(areas, draw.choice(evened), lots, draw.choice(hurdle), draw.randint(1, 2))
    return land, [votes_sheet(draw, hands, draw.choice((1, 3, 6))) for _ in areas]


def fewest_changes(land, sheets, most):
    """The fewest ballots, up to so many, whose change makes another outcome: a going through of all changes."""
    now = House(land, sheets).outcome()
    choices = [sheets_from(sheet, lists_slips(land.hands), most) for sheet in sheets]
    found = [most + 1]
    for some in itertools.product(*choices):
        many = sum(number for sheet, number in some)
        if many < min(found) and House(land, [sheet for sheet, number in some]).outcome() != now:
            found.append(many)
    return min(found)


class Least(unittest.TestCase):
    """[9.2]"""

    def test_is_exact(self):
        for land, due in ((BY_LISTS, True), (BY_PAIRS, False), (BY_BOTH, False), (LAND, False), (Land([Lists(1, 1)]), True),
                          (Land([Pairs(1, 1)]), False)):
            margin = LandMargin(land)
            self.assertIs(margin.land, land)
            self.assertIs(margin.is_exact(), due)

    def test_lows_and_least(self):
        for land in (BY_LISTS, BY_PAIRS, BY_BOTH, Land(BY_BOTH.areas)):
            sheets = [NORTH, SOUTH]
            margin = LandMargin(land)
            self.assertEqual(margin.lows(sheets), plain_lows(land, sheets))
            low, paper = margin.least(sheets)
            self.assertEqual(low, min(one for one in plain_lows(land, sheets) if one is not None))
            self.assertEqual(paper[:-1], [margin_of(way).least(sheet)[1] for way, sheet in zip(land.areas, sheets)])
            self.assertEqual(paper[-1], even_cases(land, sheets))
            self.assertIs(margin.lows(sheets)[-1] is None, land.evened == 0)

    def test_areas_of_which_no_other_outcome_is_possible(self):
        # As many seats as hands by pairs, and an area by lists without a ballot.
        land = Land([Pairs(3, 3), Lists(3, 2), Pairs(3, 1)], 2)
        sheets = [SOUTH, [], NORTH]
        margin = LandMargin(land)
        self.assertEqual(margin.lows(sheets), plain_lows(land, sheets))
        self.assertEqual(margin.lows(sheets)[:2], [None, None])
        low, paper = margin.least(sheets)
        self.assertEqual((low, paper[:2]), (min(margin.lows(sheets)[2:]), [None, None]))
        self.assertIs(margin.shows(sheets, low, paper), True)
        self.assertIs(margin.shows(sheets, low, [[], None] + paper[2:]), False)

    def test_all_of_them_so(self):
        for land, sheets in ((Land([Pairs(3, 3), Lists(3, 2)]), [SOUTH, []]), (BY_BOTH, [[], []]), (Land([Lists(1, 1)], 60), [[]])):
            margin = LandMargin(land)
            self.assertEqual(margin.lows(sheets), [None] * (len(sheets) + 1))
            self.assertEqual(margin.least(sheets), (None, [None] * len(sheets) + [[]]))
            self.assertIsNone(margin.high(sheets))
            for low in (0, 1, HUGE, -HUGE):
                self.assertIs(margin.shows(sheets, low, [None] * len(sheets) + [[]]), True)
                self.assertIs(margin.shows(sheets, low, [None] * len(sheets)), False)
        # As many seats as hands, but an evened seat that could go otherwise.
        land, sheets = Land([Pairs(2, 2)], 1), [[((1,), 3), ((2,), 1)]]
        self.assertEqual(LandMargin(land).lows(sheets), [None, 2])
        self.assertEqual(LandMargin(land).high(sheets), (2, None, [(0, (1,), (2,), 2)]))

    def test_no_change_of_fewer_and_one_of_just_so_many(self):
        """A going through of all changes of small sheets, of lands by lists."""
        draw = random.Random(92)
        met = {}
        for _ in range(140):
            land, sheets = small_land(draw)
            if draw.random() < 0.1:
                sheets = [[] for _ in sheets]
            if sum(ballots_in(sheet) for sheet in sheets) > 14:
                continue
            low = LandMargin(land).least(sheets)[0]
            most = 3 if len(sheets) > 2 else 4
            due = most + 1 if low is None else min(low, most + 1)
            self.assertEqual(fewest_changes(land, sheets, most), due)
            met[low] = met.get(low, 0) + 1
        self.assertGreater(len(met), 3)
        self.assertIn(None, met)

    def test_no_change_of_fewer_by_pairs(self):
        draw = random.Random(29)
        met = 0
        for _ in range(120):
            land = Land([Pairs(2, 1), Lists(2, 1)], draw.choice((0, 1, 3)))
            sheets = [votes_sheet(draw, 2, 12), votes_sheet(draw, 2, 12)]
            low = LandMargin(land).least(sheets)[0]
            if low is not None and 1 < low < 4:
                self.assertEqual(fewest_changes(land, sheets, low - 1), low)
                met += 1
        self.assertGreater(met, 8)

    def test_drawn(self):
        draw = random.Random(9)
        for kinds in ((Lists,), (Pairs,), (Lists, Pairs)):
            for _ in range(25):
                land = drawn_land(draw, kinds)
                sheets = drawn_sheets(draw, land)
                margin = LandMargin(land)
                lows = plain_lows(land, sheets)
                self.assertEqual(margin.lows(sheets), lows)
                low, paper = margin.least(sheets)
                self.assertEqual(low, min((one for one in lows if one is not None), default=None))
                self.assertEqual([one is None for one in paper[:-1]], [one is None for one in lows[:-1]])
                self.assertIs(margin.shows(sheets, 0 if low is None else low, paper), True)
                self.assertIs(margin.is_exact(), all(isinstance(way, Lists) for way in land.areas))

    def test_what_is_told_is_the_askers_own(self):
        """[0.2]"""
        margin, sheets = LandMargin(LAND), [list(sheet) for sheet in SHEETS]
        for ask in (lambda: margin.lows(sheets), lambda: margin.least(sheets), lambda: margin.high(sheets)):
            self.assertTrue(is_told_anew(ask))
        low, paper = margin.least(sheets)
        kept = copy.deepcopy(paper)
        margin.shows(sheets, low, paper)
        margin.held(sheets, [1, 0, 2], sheets)
        self.assertEqual((sheets, paper), (SHEETS, kept))


class Shows(unittest.TestCase):
    """[9.3]"""

    def test_one_thing_otherwise(self):
        for land in (BY_LISTS, BY_PAIRS, BY_BOTH, BARE):
            sheets = [NORTH, SOUTH, SOUTH][:len(land.areas)]
            margin = LandMargin(land)
            low, paper = margin.least(sheets)
            self.assertIs(margin.shows(sheets, low, paper), True)
            others = list(spoilt_list(paper))
            self.assertGreater(len(others), 60)
            for other in others:
                self.assertIs(margin.shows(sheets, low, other), plain_shows(land, sheets, low, other), other)
            for other in spoilt_list(paper[-1]):
                self.assertIs(margin.shows(sheets, -HUGE, paper[:-1] + [other]), False)
            for area in range(len(land.areas)):
                for other in (None if paper[area] is not None else [], paper[-1] or [("fall", 0, None, 1)]):
                    self.assertIs(margin.shows(sheets, 0, paper[:area] + [other] + paper[area + 1:]), False)
            self.assertIs(margin.shows(sheets, 0, paper[::-1]), False)
            self.assertIs(margin.shows(sheets, 0, []), False)

    def test_lows(self):
        for land in (BY_LISTS, BY_PAIRS, BY_BOTH, BARE):
            sheets = [NORTH, SOUTH, SOUTH][:len(land.areas)]
            margin = LandMargin(land)
            low, paper = margin.least(sheets)
            for number in (low, low - 1, 0, -1, -HUGE):
                self.assertIs(margin.shows(sheets, number, paper), True)
            for number in (low + 1, low + 2, HUGE):
                self.assertIs(margin.shows(sheets, number, paper), False)

    def test_the_low_of_each_alone(self):
        """A low above that of one area, or above that of evening alone, is not shown."""
        close, clear = [((1,), 5), ((2,), 4)], [((1,), 90)]
        land = Land([Lists(2, 1), Pairs(2, 1)], 1, None, (1, 100))
        for sheets in ([close, clear], [clear, close], [[((1,), 41), ((2,), 1)], [((1,), 1), ((2,), 41)]]):
            margin = LandMargin(land)
            low, paper = margin.least(sheets)
            self.assertEqual(margin.lows(sheets).count(low), 1)
            self.assertIs(margin.shows(sheets, low, paper), True)
            self.assertIs(margin.shows(sheets, low + 1, paper), False)

    def test_papers_of_other_sheets(self):
        for land in (BY_LISTS, BY_PAIRS, BY_BOTH):
            margin = LandMargin(land)
            for sheets in ([SOUTH, NORTH], [[], SOUTH], [NORTH, []]):
                paper = margin.least(sheets)[1]
                self.assertIs(margin.shows([NORTH, SOUTH], 1, paper), False)


class High(unittest.TestCase):
    """[9.3]"""

    def test_of_an_area_and_of_evening(self):
        draw = random.Random(93)
        met = {"first": 0, "later": 0, "evening": 0, "none": 0}
        for kinds in ((Lists,), (Pairs,), (Lists, Pairs)):
            for _ in range(60):
                land = drawn_land(draw, kinds)
                sheets = drawn_sheets(draw, land)
                told = LandMargin(land).high(sheets)
                highs = [margin_of(way).high(sheet)[0] if margin_of(way).possible(sheet) else None
                         for way, sheet in zip(land.areas, sheets)] + [even_least(land, sheets)]
                some = [high for high in highs if high is not None]
                if not some:
                    self.assertIsNone(told)
                    met["none"] += 1
                    continue
                high, area, change = told
                due = highs.index(min(some))
                self.assertEqual((high, area), (min(some), due if due < len(land.areas) else None))
                self.assertEqual(sum(row[-1] for row in change), high)
                self.assertNotEqual(House(land, changed_by(sheets, area, change)).outcome(), House(land, sheets).outcome())
                if area is None:
                    self.assertTrue(all(0 <= row[0] < len(sheets) and len(row) == 4 for row in change))
                met["evening" if area is None else "later" if area else "first"] += 1
                if LandMargin(land).is_exact():
                    self.assertEqual(high, LandMargin(land).least(sheets)[0])
        self.assertGreater(min(met.values()), 5)

    def test_an_area_ahead_of_evening(self):
        # Each of the three needs one ballot; with one seat in area 0 clear, area 1 is the first one.
        sheets = [[((1,), 5), ((2,), 5)], [((1,), 5), ((2,), 5)]]
        land = Land([Lists(2, 1), Lists(2, 1)], 1, [0, 1])
        self.assertEqual(LandMargin(land).lows(sheets), [1, 1, 5])
        self.assertEqual(LandMargin(land).high(sheets)[:2], (1, 0))
        sheets[0] = [((1,), 9), ((2,), 1)]
        self.assertEqual(LandMargin(land).high(sheets)[:2], (1, 1))

    def test_evening_over_several_areas(self):
        # Nobody takes part in the land; so many ballots are in no one area.
        sheets = [[((1,), 2), ((2,), 2)], [((), 1), ((1,), 2), ((2,), 1)]]
        land = Land([Pairs(2, 2), Pairs(2, 2)], 1, None, (1, 1))
        self.assertEqual(LandMargin(land).lows(sheets), [None, None, 4])
        high, area, change = LandMargin(land).high(sheets)
        self.assertEqual((high, area, {row[0] for row in change}), (4, None, {0, 1}))
        self.assertNotEqual(House(land, changed_by(sheets, area, change)).outcome(), House(land, sheets).outcome())


class Held(unittest.TestCase):
    """[9.4]"""

    def test_nothing_unseen_and_all_unseen(self):
        for land in (BY_LISTS, BY_PAIRS, BY_BOTH):
            margin, sheets = LandMargin(land), [NORTH, SOUTH]
            self.assertIs(margin.held(sheets, [0, 0], sheets), True)
            self.assertIs(margin.held([[], []], [ballots_in(sheet) for sheet in sheets], sheets), False)
            self.assertIs(margin.held([[], []], [0, 0], [[], []]), True)

    def test_no_evened_seats(self):
        # The area is settled as it has as many seats as hands; without evened seats nothing else hangs.
        sheets, seen = [[((1,), 3), ((2,), 3)]], [[((1,), 3)]]
        self.assertIs(LandMargin(Land([Pairs(2, 2)])).held(seen, [3], sheets), True)
        self.assertIs(LandMargin(Land([Pairs(2, 2)], 1, [1, 0])).held(seen, [3], sheets), False)
        self.assertIs(LandMargin(Land([Pairs(2, 2)], 1)).held(seen, [3], sheets), True)

    def test_no_hand_has_evened_seats(self):
        land = Land([Pairs(2, 2)], 1, None, (1, 2))
        known = [[((), 6), ((1,), 2), ((2,), 2)]]
        # Five of ten are wanted: with two votes seen, three unseen are enough, two are not.
        self.assertIs(LandMargin(land).held([[((), 4), ((1,), 2), ((2,), 2)]], [2], known), True)
        self.assertIs(LandMargin(land).held([[((), 3), ((1,), 2), ((2,), 2)]], [3], known), False)
        self.assertIs(LandMargin(land).held([[((), 6), ((1,), 1)]], [3], known), True)
        self.assertIs(LandMargin(land).held([[((), 5), ((1,), 1)]], [4], known), False)

    def test_a_hand_that_could_fall_under_the_hurdle(self):
        land = Land([Pairs(2, 2)], 1, None, (1, 2))
        known = [[((), 4), ((1,), 6)]]
        self.assertIs(LandMargin(land).held([[((), 4), ((1,), 5)]], [1], known), True)
        self.assertIs(LandMargin(land).held([[((), 4), ((1,), 4)]], [2], known), False)

    def test_marks_that_are_even(self):
        known = [[((), 1), ((1,), 3), ((2,), 1)], [((), 1), ((2,), 1)]]
        seen = [[((1,), 3), ((2,), 1)], [((2,), 1)]]
        for lots, due in (([0, 1], False), ([1, 0], False)):
            land = Land([Pairs(2, 2), Pairs(2, 2)], 1, lots)
            self.assertIs(LandMargin(land).held(seen, [1, 1], known), due)
        known[0], seen[0] = [((), 1), ((1,), 4), ((2,), 1)], [((1,), 4), ((2,), 1)]
        for lots, due in (([0, 1], True), ([1, 0], False)):
            land = Land([Pairs(2, 2), Pairs(2, 2)], 1, lots)
            self.assertIs(LandMargin(land).held(seen, [1, 1], known), due)
            self.assertIs(LandMargin(land).held([seen[0], known[1]], [1, 0], known), True)

    def test_by_the_words(self):
        draw = random.Random(94)
        met = {True: 0, False: 0}
        for kinds in ((Lists,), (Pairs,), (Lists, Pairs)):
            for _ in range(120):
                land = drawn_land(draw, kinds)
                seen = [[(slip, 20 * number) for slip, number in sheet] for sheet in drawn_sheets(draw, land)]
                rest = [draw.choice(([], [((), 1)], [((1,), 2)])) for _ in seen]
                known = [joined([one, more]) for one, more in zip(seen, rest)]
                unseen = [ballots_in(sheet) for sheet in rest]
                told = LandMargin(land).held(seen, unseen, known)
                self.assertIs(told, plain_held(land, seen, unseen, known))
                met[told] += 1
        self.assertGreater(min(met.values()), 60)

    def test_exact_by_lists(self):
        """A going through of all unseen ballots of small lands."""
        draw = random.Random(49)
        met = {True: 0, False: 0}
        for _ in range(160):
            land, seen = small_land(draw)
            unseen = [draw.choice((0, 0, 1, 2)) for _ in seen]
            choices = [sheets_of(lists_slips(land.hands), many) for many in unseen]
            every = [[joined(pair) for pair in zip(seen, rest)] for rest in itertools.product(*choices)]
            outcomes = {repr(House(land, sheets).outcome()) for sheets in every}
            told = {LandMargin(land).held(seen, unseen, known) for known in every}
            self.assertEqual(told, {len(outcomes) == 1})
            met[len(outcomes) == 1] += 1
        self.assertGreater(min(met.values()), 30)

    def test_never_held_where_others_make_another_outcome(self):
        """Of lands by pairs, too."""
        draw = random.Random(4)
        held = 0
        for _ in range(120):
            land = Land([Pairs(2, 1, draw.choice((None, [1, 0]))), draw.choice((Pairs, Lists))(2, 1)], draw.choice((0, 1, 2)))
            seen = [votes_sheet(draw, 2, 9) for _ in land.areas]
            unseen = [draw.choice((0, 1)), draw.choice((0, 1))]
            choices = [sheets_of([(), (1,), (2,), (1, 2), (3,)], many) for many in unseen]
            every = [[joined(pair) for pair in zip(seen, rest)] for rest in itertools.product(*choices)]
            outcomes = {repr(House(land, sheets).outcome()) for sheets in every}
            if LandMargin(land).held(seen, unseen, every[0]):
                self.assertEqual(len(outcomes), 1)
                held += 1
        self.assertGreater(held, 30)
