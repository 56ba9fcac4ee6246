import itertools
import unittest

from tests.land import plain_standing, some_tellings
from tests.things import anything_but_numbers, anything_but_tuples, no_words
from wholepoll.tellings import clashing, is_telling, lives_by, standing, telling_key

MOST = 10 ** 9


class IsTelling(unittest.TestCase):
    """[3.1]"""

    def test_tellings(self):
        for telling in (
            (0, 0, "a", "comes", 0), (MOST, MOST, "abcdefgh", "comes", 5), (1, 2, "ann", "goes", None),
            (1, 2, "ann", "barred", None), (1, 2, "ann", "cleared", None), (1, 2, "comes", "goes", None),
        ):
            self.assertIs(is_telling(telling), True)

    def test_numbers_days_and_areas_beyond(self):
        for telling in (
            (-1, 0, "a", "comes", 0), (MOST + 1, 0, "a", "comes", 0), (0, -1, "a", "comes", 0),
            (0, MOST + 1, "a", "comes", 0), (0, 0, "a", "comes", -1), (0, 0, "a", "comes", 6),
        ):
            self.assertIs(is_telling(telling), False, telling)

    def test_areas_in_the_wrong_place(self):
        for word in ("goes", "barred", "cleared"):
            for area in (0, 5, False, True, "", ()):
                self.assertIs(is_telling((0, 0, "a", word, area)), False)
        self.assertIs(is_telling((0, 0, "a", "comes", None)), False)

    def test_other_words_and_voters(self):
        for word in ("", "come", "Comes", "comes ", "lives", "bar"):
            self.assertIs(is_telling((0, 0, "a", word, 0)), False)
            self.assertIs(is_telling((0, 0, "a", word, None)), False)
        for voter in ("", "Ann", "abcdefghi", "a b", "a1"):
            self.assertIs(is_telling((0, 0, voter, "comes", 0)), False)

    def test_other_lengths(self):
        for thing in ((), (0, 0, "a", "goes"), (0, 0, "a", "goes", None, None), [0, 0, "a", "goes", None]):
            self.assertIs(is_telling(thing), False)

    def test_things_of_any_kind(self):
        for thing in anything_but_tuples():
            self.assertIs(is_telling(thing), False)
        for thing in anything_but_numbers():
            self.assertIs(is_telling((thing, 0, "a", "comes", 0)), False)
            self.assertIs(is_telling((0, thing, "a", "comes", 0)), False)
            self.assertIs(is_telling((0, 0, "a", "comes", thing)), False)
            if thing is not None:
                self.assertIs(is_telling((0, 0, "a", "goes", thing)), False)
        for thing in no_words():
            self.assertIs(is_telling((0, 0, thing, "comes", 0)), False)
            self.assertIs(is_telling((0, 0, "a", thing, 0)), False)
            self.assertIs(is_telling((0, 0, "a", thing, None)), False)

    def test_key_and_kind(self):
        self.assertEqual(telling_key((7, 3, "a", "comes", 0)), (3, 7))
        told = [lives_by((0, 0, "a", word, None)) for word in ("goes", "barred", "cleared")]
        self.assertEqual(told, [True, False, False])
        self.assertIs(lives_by((0, 0, "a", "comes", 1)), True)


class Standing(unittest.TestCase):
    """[3.2]"""

    ONE = (4, 9, "a", "comes", 0)
    TWO = (5, 3, "b", "goes", None)
    TORN = (2, 1, "a", "comes", 1)
    TORN_TOO = (2, 1, "a", "comes", 2)
    ALSO = (1, 9, "c", "barred", None)

    def test_any_order(self):
        some = [self.ONE, self.TORN, self.TWO, self.TORN_TOO, self.ALSO]
        for tellings in itertools.permutations(some):
            self.assertEqual(standing(list(tellings)), [self.TWO, self.ALSO, self.ONE])
            self.assertEqual(clashing(list(tellings)), [2])

    def test_told_several_times(self):
        self.assertEqual(standing([self.ONE, self.TWO, self.ONE, self.ONE]), [self.TWO, self.ONE])
        self.assertEqual(clashing([self.ONE, self.TWO, self.ONE]), [])
        torn = [self.TORN, self.TORN_TOO, self.TORN]
        self.assertEqual((standing(torn), clashing(torn)), ([], [2]))

    def test_clashing_rises(self):
        tellings = [(n, day, "a", "goes", None) for n in (9, 0, 30, 4) for day in (1, 2)]
        self.assertEqual(clashing(tellings), [0, 4, 9, 30])

    def test_none(self):
        self.assertEqual((standing([]), clashing([])), ([], []))

    def test_by_the_plain_words(self):
        for seed in range(20):
            tellings = some_tellings(seed, 12)
            self.assertEqual(standing(tellings), plain_standing(tellings))
            fallen = {telling[0] for telling in tellings} - {telling[0] for telling in plain_standing(tellings)}
            self.assertEqual(clashing(tellings), sorted(fallen))

    def test_what_is_handed_in_stays_and_what_is_told_is_new(self):
        """[0.2]"""
        tellings = [self.ONE, self.TWO]
        told = standing(tellings)
        told.clear()
        clashing(tellings).append(1)
        self.assertEqual(tellings, [self.ONE, self.TWO])
        self.assertEqual(standing(tellings), [self.TWO, self.ONE])
        self.assertEqual(clashing(tellings), [])
