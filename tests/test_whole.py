"""[0.7] What is promised of the whole."""

import itertools
import random
import unittest

from tests.draws import sheets_of, votes_sheet
from tests.test_listmargin import lists_slips
from tests.test_polls import poll_of
from tests.test_stillland import as_tuples
from tests.truths import BY_LISTS, LAND, RULES, facts_of, some_deeds
from wholepoll import errors
from wholepoll.house import House
from wholepoll.housecheck import HouseChecker
from wholepoll.landmargin import LandMargin
from wholepoll.lands import Land
from wholepoll.lists import Lists
from wholepoll.lots import least_lots
from wholepoll.majorities import open_areas, sure_majorities
from wholepoll.notation import show_deeds
from wholepoll.pairs import Pairs
from wholepoll.polls import Poll
from wholepoll.power import wins
from wholepoll.reaches import Ledger, idle, reached
from wholepoll.readers import read_deeds
from wholepoll.seals import mended, seal_of
from wholepoll.sheets import ballots_in, joined
from wholepoll.stillarea import greatest_seats, least_seats, sure_seats
from wholepoll.stillland import between, houses, is_settled, outcomes, sheets_for


class Deeds(unittest.TestCase):
    """The house hangs on the set of the deeds that stand alone."""

    def test_any_order_some_twice_some_taken_out_again(self):
        draw = random.Random(7)
        for land in (LAND, BY_LISTS):
            for _ in range(30):
                deeds, away = some_deeds(draw, land, 12), some_deeds(draw, land, 5)
                away = [deed for deed in away if deed not in deeds]
                ledger = Ledger(Poll(land, RULES))
                mixed = [("put", deed) for deed in deeds + deeds[:3] + away]
                draw.shuffle(mixed)
                for word, deed in mixed:
                    ledger.put(deed)
                for deed in dict.fromkeys(away):
                    ledger.out(deed)
                due = poll_of(deeds, land)
                self.assertEqual(ledger.poll(), due)
                self.assertEqual(facts_of(ledger.poll()), facts_of(due))
                self.assertEqual(ledger.house().outcome(), due.house().outcome())
                self.assertEqual(ledger.house().paper(), due.house().paper())
                words = ["red", "green", "blue"][:land.hands]
                again = poll_of(read_deeds(show_deeds(ledger.poll().deeds(), words), words, len(land.areas)), land)
                self.assertEqual((again, facts_of(again)), (due, facts_of(due)))

    def test_deeds_that_do_not_stand_change_no_house(self):
        draw = random.Random(17)
        for _ in range(40):
            deeds = some_deeds(draw, LAND, 14)
            poll = poll_of(deeds)
            self.assertEqual(poll_of(poll.standing()).house().outcome(), poll.house().outcome())

    def test_what_is_reached_is_just_what_it_changes(self):
        draw = random.Random(27)
        for _ in range(20):
            deeds = some_deeds(draw, BY_LISTS, 12)
            poll = poll_of(deeds, BY_LISTS)
            for deed in poll.deeds():
                other = poll.copied()
                other.out(deed)
                told = reached(poll, deed)
                self.assertEqual((told[1], told[3]), poll.unlike(other))
                self.assertEqual(told[4:] == ([], False), poll.house().outcome() == other.house().outcome())
                self.assertIs(deed in idle(poll), told == ([], [], [], [], [], False))


class Papers(unittest.TestCase):
    def test_each_seat_is_shown(self):
        draw = random.Random(37)
        for land in (LAND, BY_LISTS, Land([Pairs(3, 2), Pairs(3, 1)], 3)):
            for _ in range(15):
                poll = poll_of(some_deeds(draw, land, 12), land)
                house, checker = poll.house(), HouseChecker(land)
                self.assertIs(checker.passes(poll.sheets(), house.paper(), house.outcome()), True)
                low, paper = LandMargin(land).least(poll.sheets())
                self.assertIs(LandMargin(land).shows(poll.sheets(), 1 if low is None else low, paper), True)

    def test_lots_by_lists(self):
        """A lot settles the outcome just where no ballots whatever in the others make another one."""
        draw = random.Random(47)
        for _ in range(15):
            land = Land([Lists(2, 1), Lists(2, 2)], draw.choice((0, 1)))
            bundles = [(draw.randrange(2), votes_sheet(draw, 2, 1)) for _ in range(3)]
            least = least_lots(land, bundles)
            for lot in range(8):
                kept = [one for place, one in enumerate(bundles) if lot >> place & 1]
                left = [one for place, one in enumerate(bundles) if not lot >> place & 1]
                if sum(ballots_in(sheet) for area, sheet in left) > 7:
                    continue
                told = set()
                for some in itertools.product(*[sheets_of(lists_slips(2), ballots_in(sheet)) for area, sheet in left]):
                    every = kept + [(area, sheet) for (area, _), sheet in zip(left, some)]
                    sheets = [joined([sheet for one, sheet in every if one == area]) for area in range(2)]
                    told.add(repr(House(land, sheets).outcome()))
                self.assertIs(any(one & lot == one for one in least), len(told) == 1)


class Still(unittest.TestCase):
    """What is told as sure stays so with each ballot that comes, and in the end one outcome is left."""

    def test_ballot_by_ballot(self):
        draw = random.Random(57)
        for _ in range(25):
            hands = draw.choice((2, 3))
            land = Land([Lists(hands, draw.randint(1, 3), None, draw.choice((None, (1, 5)))) for _ in range(2)], draw.choice((0, 2)))
            seen, unseen = [votes_sheet(draw, hands, 3) for _ in land.areas], [2, 2]
            states = []
            while True:
                self.within(land, seen, unseen)
                states.append((
                    set(outcomes(land, seen, unseen)), set(houses(land, seen, unseen)), between(land, seen, unseen),
                    sure_majorities(land, seen, unseen), set(open_areas(land, seen, unseen)), is_settled(land, seen, unseen),
                ))
                if sum(unseen) == 0:
                    break
                area = draw.choice([one for one in range(2) if unseen[one]])
                seen[area] = joined([seen[area], [(draw.choice(lists_slips(hands)), 1)]])
                unseen[area] -= 1
            for before, after in zip(states, states[1:]):
                self.assertLessEqual(after[0], before[0])
                self.assertLessEqual(after[1], before[1])
                self.assertTrue(all(low <= least and most <= high for (low, high), (least, most) in zip(before[2], after[2])))
                # A group that is sure stays so, though a smaller one may be sure, too.
                self.assertTrue(all(any(one & group == one for one in after[3]) for group in before[3]))
                self.assertLessEqual(after[4], before[4])
                self.assertTrue(after[5] or not before[5])
            house = House(land, seen)
            self.assertEqual(states[-1][:2], ({as_tuples(house.outcome())}, {tuple(house.in_all())}))
            self.assertEqual(states[-1][4:], (set(), True))
            self.assertTrue(all(wins(house.in_all(), group) for group in states[-1][3]))

    def within(self, land, seen, unseen):
        """What the areas tell goes with what the land tells, and each outcome comes of some ballots."""
        told = outcomes(land, seen, unseen)
        for area, way in enumerate(land.areas):
            for group in range(1, 1 << land.hands):
                seats = [sum(outcome[0][area][hand] for hand in range(land.hands) if group >> hand & 1) for outcome in told]
                self.assertEqual(least_seats(way, seen[area], unseen[area], group), min(seats))
                self.assertEqual(greatest_seats(way, seen[area], unseen[area], group), max(seats))
            self.assertEqual(sure_seats(way, seen[area], unseen[area]), [min(one[0][area][hand] for one in told) for hand in range(land.hands)])
        for outcome in told[:3]:
            sheets = sheets_for(land, seen, unseen, outcome)
            self.assertEqual(as_tuples(House(land, [joined(pair) for pair in zip(seen, sheets)]).outcome()), outcome)


class Refusals(unittest.TestCase):
    """[0.8]"""

    def test_each_stands_straight_under_one_base(self):
        some = [thing for thing in vars(errors).values() if isinstance(thing, type)]
        self.assertEqual(len(some), 20)
        for error in some:
            self.assertEqual(error.__bases__, (ValueError if error is errors.PollError else errors.PollError,))


class Numbers(unittest.TestCase):
    """[0.4]"""

    def test_sixty_figures(self):
        many = 10 ** 60 - 1
        codes = [many, -many, 0]
        self.assertEqual(mended([many, 5, 0], seal_of(codes)), (codes, 2))
        self.assertEqual(greatest_seats(Lists(2, 3), [((1,), many)], 10 ** 9, 3), 3)
        self.assertEqual(House(Land([Lists(2, 3), Pairs(2, 1)], 2), [[((1,), many)], [((2,), many)]]).in_all(), [3, 3])
