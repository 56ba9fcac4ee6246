import itertools
import unittest

from tests.things import anything_but_numbers, anything_but_tuples, no_words
from wholepoll.envelopes import are_rules, is_envelope, standing_envelopes

MOST = 10 ** 9


class IsEnvelope(unittest.TestCase):
    """[4.1]"""

    def test_envelopes(self):
        for envelope in ((0, "a", 0, 0, ()), (MOST, "abcdefgh", 5, MOST, (2, 1)), (3, "ann", 2, 7, (3,))):
            self.assertIs(is_envelope(envelope, 2), True)
        self.assertIs(is_envelope((0, "a", 0, 0, (2048,)), 12), True)

    def test_beyond(self):
        for envelope in (
            (-1, "a", 0, 0, ()), (MOST + 1, "a", 0, 0, ()), (0, "", 0, 0, ()), (0, "Ann", 0, 0, ()), (0, "abcdefghi", 0, 0, ()),
            (0, "a", -1, 0, ()), (0, "a", 6, 0, ()), (0, "a", None, 0, ()), (0, "a", 0, -1, ()), (0, "a", 0, MOST + 1, ()),
            (True, "a", 0, 0, ()), (0, "a", False, 0, ()), (0, "a", 0, True, ()),
            (0, "a", 0, 0, (4,)), (0, "a", 0, 0, (0,)), (0, "a", 0, 0, (1, 1)), (0, "a", 0, 0, (True,)), (0, "a", 0, 0, [1]),
            (0, "a", 0, 0), (0, "a", 0, 0, (), ()), (), [0, "a", 0, 0, ()],
        ):
            self.assertIs(is_envelope(envelope, 2), False, envelope)

    def test_slips_of_more_hands(self):
        self.assertEqual([is_envelope((0, "a", 0, 0, (8,)), hands) for hands in (3, 4, 12)], [False, True, True])

    def test_things_of_any_kind(self):
        for thing in anything_but_tuples():
            self.assertIs(is_envelope(thing, 2), False)
            self.assertIs(is_envelope((0, "a", 0, 0, thing), 2), False)
        for thing in anything_but_numbers():
            self.assertIs(is_envelope((thing, "a", 0, 0, ()), 2), False)
            self.assertIs(is_envelope((0, "a", thing, 0, ()), 2), False)
            self.assertIs(is_envelope((0, "a", 0, thing, ()), 2), False)
        for thing in no_words():
            self.assertIs(is_envelope((0, thing, 0, 0, ()), 2), False)


class Rules(unittest.TestCase):
    """[4.1]"""

    def test_rules(self):
        for rules in ((0, 0, 0, 0), (MOST, MOST, MOST, MOST), (5, 0, 9, 9), (9, 3, 0, 1)):
            self.assertIs(are_rules(rules), True)

    def test_no_rules(self):
        for rules in (
            (5, 0, 9, 8), (5, 0, 1, 0), (-1, 0, 0, 0), (0, -1, 0, 0), (0, 0, -1, 0), (0, 0, 0, -1), (0, 0, 0, MOST + 1),
            (MOST + 1, 0, 0, 0), (0, MOST + 1, 0, 0), (0, 0, MOST + 1, MOST + 1), (0, 0, 0), (0, 0, 0, 0, 0), (), [0, 0, 0, 0],
        ):
            self.assertIs(are_rules(rules), False, rules)

    def test_things_of_any_kind(self):
        for thing in anything_but_tuples():
            self.assertIs(are_rules(thing), False)
        for thing in anything_but_numbers():
            for at in range(4):
                self.assertIs(are_rules((0,) * at + (thing,) + (0,) * (3 - at)), False)


class Standing(unittest.TestCase):
    """[4.1]"""

    def test_any_order(self):
        one, two, three = (7, "a", 0, 3, ()), (2, "b", 0, 3, ()), (1, "a", 1, 9, (1,))
        torn, torn_too, early = (4, "c", 0, 1, (1,)), (4, "c", 0, 1, (2,)), (9, "d", 5, 1, (3,))
        for some in itertools.permutations([one, two, three, torn, torn_too, one, early]):
            self.assertEqual(standing_envelopes(list(some)), [early, two, one, three])
        self.assertEqual(standing_envelopes([]), [])
        self.assertEqual(standing_envelopes([torn, torn_too, torn]), [])

    def test_what_is_handed_in_stays(self):
        """[0.2]"""
        envelopes = [(7, "a", 0, 3, ()), (2, "b", 0, 3, ())]
        standing_envelopes(envelopes).clear()
        self.assertEqual(envelopes, [(7, "a", 0, 3, ()), (2, "b", 0, 3, ())])
