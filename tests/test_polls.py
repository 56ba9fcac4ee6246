import copy
import itertools
import random
import unittest

from tests.draws import is_told_anew, spoiled
from tests.things import anything_but_lists, anything_but_tuples, no_wholes
from tests.truths import BY_LISTS, LAND, RULES, facts_of, plain_facts, plain_standing, some_deeds, unlike
from wholepoll.errors import NoDeed, NoPoll
from wholepoll.lands import Land
from wholepoll.lists import Lists
from wholepoll.pairs import Pairs
from wholepoll.polls import Poll
from wholepoll.ways import Way

DEEDS = [
    ("roll", 1, (1, 0, "ann", "comes", 0)), ("roll", 2, (2, 0, "bob", "comes", 1)), ("mail", 3, (30, "ann", 0, 5, (1, 2))),
    ("mail", 4, (31, "bob", 0, 5, (2,))), ("mail", 5, (32, "bob", 1, 6, (4,))), ("strike", 6, 31),
    ("bundle", 7, 0, (((1,), 3), ((2,), 1), ((1,), 1))), ("bundle", 8, 1, (((1, 2), 2),)), ("recount", 9, 8, (((2, 1), 2),)),
    ("void", 10, 2),
]


def poll_of(deeds, land=LAND, rules=RULES):
    poll = Poll(land, rules)
    for deed in deeds:
        poll.put(deed)
    return poll


def land_anew(**other):
    """The land of the tests, made anew, with some things otherwise."""
    made = {"areas": [Lists(3, 2), Pairs(3, 1)], "evened": 2, "lots": [2, 0, 1], "hurdle": None, "step": 1}
    return Land(**{**made, **other})


class Made(unittest.TestCase):
    """[11.3]"""

    def test_no_land(self):
        for thing in no_wholes() + [0, 1, "", "land", [], (), [LAND], (LAND,), Land, Lists(3, 2), Pairs(3, 1), Way(3, 1)]:
            with self.assertRaises(NoPoll):
                Poll(thing, RULES)
            with self.assertRaises(NoPoll):
                Poll(thing, thing)

    def test_no_rules(self):
        for rules in anything_but_tuples() + [
            (), (1, 2, 3), (1, 2, 3, 4, 5), [9, 2, 1, 7], (9, 2, 7, 6), (9, 2, 1, 10 ** 9 + 1), (-1, 2, 1, 7), (9, True, 1, 7),
            ("9", 2, 1, 7), (9, 2, None, 7),
        ]:
            with self.assertRaises(NoPoll):
                Poll(LAND, rules)
        for rules in ((0, 0, 0, 0), (10 ** 9,) * 4, RULES):
            self.assertEqual(Poll(LAND, rules).deeds(), [])

    def test_a_new_poll(self):
        poll = Poll(LAND, RULES)
        told = [poll.deeds(), poll.standing(), poll.envelopes(), poll.struck(), poll.mail(), poll.boxes(), poll.sheets(), poll.verdicts()]
        self.assertEqual(told, [[], [], [], [], [[], []], [{}, {}], [[], []], {}])
        self.assertEqual((poll.roll().areas, poll.roll().told()), (2, []))
        self.assertEqual(poll.house().outcome(), ([[0, 0, 0], [1, 0, 0]], [0, 0, 0]))


class Deeds(unittest.TestCase):
    """[11.3]"""

    def test_put_and_out(self):
        poll, deed = Poll(LAND, RULES), DEEDS[0]
        self.assertIs(poll.put(deed), True)
        self.assertIs(poll.put(deed), False)
        self.assertIs(poll.put(copy.deepcopy(deed)), False)
        self.assertEqual(poll.deeds(), [deed])
        self.assertIsNone(poll.out(copy.deepcopy(deed)))
        self.assertEqual(poll, Poll(LAND, RULES))
        for _ in range(2):
            with self.assertRaises(NoDeed):
                poll.out(deed)
        self.assertIs(poll.put(deed), True)

    def test_no_deeds(self):
        poll = poll_of(DEEDS)
        things = anything_but_tuples() + [
            (), ("roll",), ("roll", 1, (1, 0, "ann", "comes", 2)), ("mail", 1, (1, "ann", 0, 1, (8,))), ("bundle", 1, 2, ()),
            ("bundle", 1, 0, (((1,), 0),)), ("bundle", 1, 0, (((8,), 1),)), ("recount", 1, 1, []), ("strike", True, 1), ("void", 1, None),
            ("mail", 1, (1, "ann", 6, 1, ())), list(DEEDS[0]),
        ]
        for thing in things:
            for ask in (poll.put, poll.out):
                with self.assertRaises(NoDeed):
                    ask(thing)
        self.assertEqual(facts_of(poll), plain_facts(LAND, RULES, DEEDS))

    def test_what_is_not_just_there(self):
        poll = poll_of(DEEDS)
        # Equal to Python, but a truth is no number.
        for deed in (("strike", 6, 32), ("strike", 1, 31), ("void", True, 2), ("void", 10, True), ("strike", 6.0, 31), DEEDS[0][:2] + (list(DEEDS[0][2]),)):
            with self.assertRaises(NoDeed):
                poll.out(deed)
        one = poll_of([("void", 1, 1)])
        for deed in (("void", True, 1), ("void", 1, True)):
            for ask in (one.put, one.out):
                with self.assertRaises(NoDeed):
                    ask(deed)
        self.assertEqual(len(poll.deeds()), len(DEEDS))

    def test_the_order_of_deeds(self):
        some = [
            ("void", 5, 1), ("strike", 5, 1), ("strike", 5, 10), ("strike", 5, 2), ("bundle", 5, 0, ()), ("recount", 5, 0, ()),
            ("strike", 10, 1), ("strike", 9, 1), ("roll", 5, (1, 0, "ann", "goes", None)), ("mail", 5, (1, "ann", 0, 0, ())),
        ]
        due = sorted(some, key=lambda deed: (deed[1], repr(deed)))
        for seed in range(5):
            random.Random(seed).shuffle(some)
            self.assertEqual(poll_of(some).deeds(), due)
        self.assertLess(due.index(("strike", 5, 10)), due.index(("strike", 5, 2)))

    def test_what_stands(self):
        poll = poll_of(DEEDS)
        self.assertEqual(poll.standing(), [deed for deed in DEEDS if deed[1] != 2])
        self.assertEqual(poll.roll().told(), [DEEDS[0][2]])
        self.assertEqual(poll.envelopes(), [DEEDS[2][2], DEEDS[3][2], DEEDS[4][2]])
        self.assertEqual(poll.struck(), [31])
        self.assertEqual(poll.verdicts(), {30: "counts", 31: "struck", 32: "stranger"})
        self.assertEqual(poll.mail(), [[((1, 2), 1)], []])
        self.assertEqual(poll.boxes(), [{7: [((1,), 3), ((2,), 1), ((1,), 1)]}, {8: [((2, 1), 2)]}])
        self.assertEqual(poll.sheets(), [[((1,), 4), ((1, 2), 1), ((2,), 1)], [((2, 1), 2)]])
        poll.out(DEEDS[-1])
        self.assertEqual(poll.verdicts(), {30: "counts", 31: "struck", 32: "counts"})
        self.assertEqual(poll.sheets()[1], [((2, 1), 2), ((4,), 1)])

    def test_deeds_that_tell_the_same(self):
        """Envelopes, tellings and struck numbers of several deeds stand once."""
        some = [("mail", 1, DEEDS[2][2]), ("mail", 2, DEEDS[2][2]), ("roll", 3, DEEDS[0][2]), ("roll", 4, DEEDS[0][2])]
        poll = poll_of(some)
        self.assertEqual((poll.envelopes(), poll.roll().told(), poll.struck()), ([DEEDS[2][2]], [DEEDS[0][2]], []))
        self.assertEqual(poll.verdicts(), {30: "counts"})
        self.assertEqual(poll_of(some + [("strike", 5, 30), ("strike", 6, 30)]).struck(), [30])
        # Unlike envelopes with one number clash by themselves, their deeds do not.
        poll = poll_of(some + [("mail", 99, (30, "bob", 1, 1, ()))])
        self.assertEqual((len(poll.envelopes()), len(poll.standing()), poll.verdicts()), (2, 5, {}))

    def test_drawn(self):
        """[11.4] [0.7] Each thing that is told, in whatever order the deeds come, some twice, some taken out again."""
        draw = random.Random(113)
        for land in (LAND, BY_LISTS):
            for _ in range(60):
                deeds = some_deeds(draw, land, draw.choice((5, 12, 20)))
                due = plain_facts(land, RULES, deeds)
                poll = poll_of(deeds, land)
                self.assertEqual(facts_of(poll), due)
                self.assertEqual(poll.deeds(), sorted(set(deeds), key=lambda deed: (deed[1], repr(deed))))
                more = some_deeds(draw, land, 4)
                other = poll_of(more, land)
                draw.shuffle(deeds)
                for deed in deeds + deeds[:3]:
                    other.put(deed)
                for deed in set(more) - set(deeds):
                    other.out(deed)
                self.assertEqual(facts_of(other), due)
                self.assertEqual((other == poll, other.deeds()), (True, poll.deeds()))
                self.assertEqual(list(poll.verdicts()), sorted(poll.verdicts()))


class Equal(unittest.TestCase):
    """[11.3]"""

    def test_orders_and_lands_made_anew(self):
        poll = poll_of(DEEDS)
        for deeds, land in ((DEEDS[::-1], LAND), (DEEDS, land_anew()), (DEEDS + DEEDS, land_anew(areas=(Lists(3, 2), Pairs(3, 1, [0, 1, 2]))))):
            self.assertIs(poll == poll_of(deeds, land), True)
            self.assertIs(poll != poll_of(deeds, land), False)
        self.assertIs(poll == poll_of(DEEDS, land_anew(hurdle=(0, 1))), True)

    def test_other_deeds(self):
        self.assertIs(poll_of(DEEDS) == poll_of(DEEDS[1:]), False)
        self.assertIs(poll_of(DEEDS) != poll_of(DEEDS[1:]), True)
        # A deed by which nothing is told otherwise is one all the same.
        self.assertIs(poll_of(DEEDS) == poll_of(DEEDS + [("void", 11, 12)]), False)

    def test_other_rules(self):
        for place in range(4):
            rules = tuple(number + (at == place) for at, number in enumerate(RULES))
            self.assertIs(poll_of(DEEDS) == poll_of(DEEDS, LAND, rules), False)

    def test_other_lands(self):
        class Stranger(Lists):
            pass

        for other in (
            {"evened": 3}, {"lots": [0, 1, 2]}, {"lots": None}, {"hurdle": (1, 20)}, {"step": 2}, {"areas": [Lists(3, 2)]},
            {"areas": [Lists(3, 2), Pairs(3, 1), Pairs(3, 1)]}, {"areas": [Pairs(3, 1), Lists(3, 2)]}, {"areas": [Pairs(3, 2), Pairs(3, 1)]},
            {"areas": [Lists(3, 3), Pairs(3, 1)]}, {"areas": [Lists(3, 2, [1, 0, 2]), Pairs(3, 1)]}, {"areas": [Lists(3, 2), Pairs(3, 2)]},
            {"areas": [Lists(3, 2, None, (1, 5)), Pairs(3, 1)]}, {"areas": [Lists(3, 2, None, None, 2), Pairs(3, 1)]},
            {"areas": [Lists(3, 2), Pairs(3, 1, [2, 1, 0])]}, {"areas": [Lists(3, 2), Lists(3, 1)]}, {"areas": [Stranger(3, 2), Pairs(3, 1)]},
        ):
            self.assertIs(Poll(LAND, RULES) == Poll(land_anew(**other), RULES), False, other)
            self.assertIs(Poll(land_anew(**other), RULES) != Poll(LAND, RULES), True, other)
        self.assertIs(Poll(LAND, RULES) == Poll(land_anew(), RULES), True)
        two = Land([Lists(2, 2), Pairs(2, 1)], 2)
        self.assertIs(Poll(LAND, RULES) == Poll(two, RULES), False)

    def test_other_things(self):
        poll = poll_of(DEEDS)
        for thing in [None, 1, "poll", DEEDS, {}, LAND, RULES, poll.deeds(), object()] + anything_but_lists()[:5]:
            self.assertIs(poll == thing, False)
            self.assertIs(poll != thing, True)

    def test_copies_go_on_by_themselves(self):
        poll = poll_of(DEEDS)
        other = poll.copied()
        self.assertEqual(other, poll)
        other.out(DEEDS[0])
        poll.put(("void", 50, 7))
        self.assertEqual(facts_of(other), plain_facts(LAND, RULES, DEEDS[1:]))
        self.assertEqual(facts_of(poll), plain_facts(LAND, RULES, DEEDS + [("void", 50, 7)]))
        roll = poll.roll()
        roll.tell((99, 0, "cy", "comes", 1))
        self.assertEqual(facts_of(poll), plain_facts(LAND, RULES, DEEDS + [("void", 50, 7)]))


class Unlike(unittest.TestCase):
    """[11.4]"""

    def test_either_way_about(self):
        draw = random.Random(114)
        met = set()
        for _ in range(80):
            deeds = some_deeds(draw, LAND, 14)
            other = deeds[:draw.randint(5, len(deeds))] + some_deeds(draw, LAND, draw.choice((0, 0, 1, 2)))
            one, two = plain_facts(LAND, RULES, deeds), plain_facts(LAND, RULES, other)
            due = (unlike(one["verdicts"], two["verdicts"]), unlike(one["sheets"], two["sheets"]))
            self.assertEqual(poll_of(deeds).unlike(poll_of(other)), due)
            self.assertEqual(poll_of(other).unlike(poll_of(deeds, land_anew())), due)
            met.add((len(due[0]) > 0, len(due[1]) > 0))
        self.assertEqual(len(met), 4)

    def test_ordinary(self):
        poll, other = poll_of(DEEDS), poll_of(DEEDS[:-1])
        self.assertEqual(poll.unlike(other), ([32], [1]))
        self.assertEqual(poll.unlike(poll), ([], []))
        # An envelope that stands in one alone, though nobody counts it.
        other = poll_of(DEEDS + [("mail", 40, (77, "cy", 0, 5, ()))])
        self.assertEqual((poll.unlike(other), other.unlike(poll)), (([77], []), ([77], [])))
        # By number, however these come.
        numbers = [10 ** 9, 8, 10 ** 8, 64, 1, 10 ** 7 + 1, 33]
        other = poll_of(DEEDS + [("mail", 40 + place, (number, "cy", 0, 5, ())) for place, number in enumerate(numbers)])
        self.assertEqual(poll.unlike(other)[0], sorted(numbers))


class Own(unittest.TestCase):
    """[0.2]"""

    def test_told_lists_and_dicts_are_changed_and_asked_again(self):
        poll = poll_of(DEEDS)
        asks = [poll.deeds, poll.standing, poll.envelopes, poll.struck, poll.mail, poll.boxes, poll.sheets, poll.verdicts]
        asks += [lambda: poll.roll().told(), lambda: poll.house().outcome(), lambda: poll.unlike(poll_of(DEEDS[:-1]))]
        for ask, other in itertools.product(asks, asks):
            due = copy.deepcopy(other())
            self.assertTrue(is_told_anew(ask))
            self.assertEqual(other(), due)
        for ask in asks:
            spoiled(ask())
        self.assertEqual(facts_of(poll), plain_facts(LAND, RULES, DEEDS))
        self.assertEqual(poll.standing(), plain_standing(DEEDS))
