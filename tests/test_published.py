import itertools
import unittest

from tests.things import anything_but_tuples, no_words
from wholepoll.published import fits, is_listing, listing_of

ONE = (("ann", "bob", "cy"), ((), (1,), (1,)))


class IsListing(unittest.TestCase):
    """[5.11]"""

    def test_listings(self):
        for thing in (
            ONE, (("ann",), ((),)), (("z",), ((4, 3),)), (("a", "aa", "b"), ((1,), (1,), (1,))),
            (("ann", "bob"), ((1, 2), (2,))), (("ann", "bob"), ((), ())),
        ):
            self.assertIs(is_listing(thing, 3), True, thing)
        self.assertIs(is_listing((("abcdefgh",), ((2048, 1),)), 12), True)

    def test_one_thing_otherwise(self):
        for thing in (
            (("bob", "ann", "cy"), ONE[1]), (("ann", "ann", "bob"), ONE[1]), (("ann", "bob", "bob"), ONE[1]),
            (("ann", "bob"), ONE[1]), (("ann", "bob", "cy", "di"), ONE[1]), ((), ()), ((), ONE[1]), (ONE[0], ()),
            (ONE[0], ((), (1,))), (ONE[0], ((), (1,), (1,), (2,))), (ONE[0], ((1,), (), (1,))), (ONE[0], ((1,), (1,), ())),
            (list(ONE[0]), ONE[1]), (ONE[0], list(ONE[1])), list(ONE), ONE + ((),), ONE[:1], (ONE[1], ONE[0]),
            (ONE[0], ([], (1,), (1,))), (ONE[0], ((), (1,), [1])), (ONE[0], ((), (1,), (8,))), (ONE[0], ((), (0,), (1,))),
            (ONE[0], ((), (1,), (1, 1))), (ONE[0], ((), (1,), (True,))), (("ann", "bob", "Cy"), ONE[1]),
            (("", "ann", "bob"), ONE[1]), (("ann", "bob", "ninechars"), ONE[1]), ("abc", ONE[1]), (ONE[0], "abc"),
            (("ann", "bob", b"cy"), ONE[1]), (ONE, ONE),
        ):
            self.assertIs(is_listing(thing, 3), False, thing)

    def test_hands(self):
        self.assertIs(is_listing((("ann",), ((4,),)), 3), True)
        self.assertIs(is_listing((("ann",), ((4,),)), 2), False)

    def test_things_of_any_kind(self):
        for thing in anything_but_tuples():
            for whole in (thing, (thing, ONE[1]), (ONE[0], thing), (thing,), (thing, thing), (ONE[0], ((), (1,), thing))):
                self.assertIs(is_listing(whole, 3), False)
            self.assertIs(is_listing((ONE[0], (thing, (1,), (1,))), 3), False)
        for thing in no_words():
            self.assertIs(is_listing((("ann", "bob", thing), ONE[1]), 3), False)
            self.assertIs(is_listing(((thing,), ((),)), 3), False)


class ListingOf(unittest.TestCase):
    """[5.11]"""

    def test_voters_in_any_order(self):
        votes = {"cy": (1,), "ann": (2, 1), "di": (4,), "bob": (1,)}
        for voters in itertools.permutations(["ann", "bob", "cy"]):
            self.assertEqual(listing_of(votes, list(voters)), (("ann", "bob", "cy"), ((1,), (1,), (2, 1))))
        for voter in votes:
            self.assertEqual(listing_of(votes, [voter]), ((voter,), (votes[voter],)))
        self.assertTrue(is_listing(listing_of(votes, list(votes)), 3))

    def test_what_is_handed_in_stays(self):
        """[0.2]"""
        votes, voters = {"bob": (1,), "ann": ()}, ["bob", "ann"]
        listing_of(votes, voters)
        fits([ONE], votes)
        self.assertEqual((votes, list(votes), voters), ({"bob": (1,), "ann": ()}, ["bob", "ann"], ["bob", "ann"]))


class Fits(unittest.TestCase):
    """[5.11]"""

    def test_who_said_which_is_left_open(self):
        for slips in itertools.permutations(ONE[1]):
            self.assertIs(fits([ONE], dict(zip(ONE[0], slips))), True)
            self.assertIs(fits([ONE], dict(zip(ONE[0][::-1], slips))), True)
        for slips in itertools.product([(), (1,), (2,)], repeat=3):
            self.assertIs(fits([ONE], dict(zip(ONE[0], slips))), sorted(slips) == [(), (1,), (1,)])

    def test_a_voter_more_or_fewer_or_another(self):
        votes = {"ann": (), "bob": (1,), "cy": (1,)}
        self.assertIs(fits([ONE], votes), True)
        self.assertIs(fits([ONE], {**votes, "di": (1,)}), False)
        self.assertIs(fits([ONE], {**votes, "cy": (2,)}), False)
        self.assertIs(fits([ONE], {"ann": (), "bob": (1,)}), False)
        self.assertIs(fits([ONE], {"ann": (), "bob": (1,), "di": (1,)}), False)
        self.assertIs(fits([ONE], {}), False)

    def test_several_listings(self):
        other = (("ann", "di"), ((), (2,)))
        votes = {"ann": (), "bob": (1,), "cy": (1,), "di": (2,)}
        for listings in ([ONE, other], [other, ONE], [ONE, other, ONE]):
            self.assertIs(fits(listings, votes), True)
            self.assertIs(fits(listings, {**votes, "ann": (1,), "bob": ()}), False)
            self.assertIs(fits(listings, {**votes, "ann": (2,), "di": ()}), False)
        self.assertIs(fits([other], votes), False)
        self.assertIs(fits([ONE, (("ann", "bob"), ((2,), (2,)))], votes), False)

    def test_no_listings(self):
        self.assertIs(fits([], {}), True)
        self.assertIs(fits([], {"ann": ()}), False)
