import itertools
import random
import unittest

from tests.draws import is_told_anew
from wholepoll.hidden import clash, groups, how_many, known, may_say, newly_known, votes_with
from wholepoll.published import fits, listing_of

VOTERS = ("ann", "bob", "cy", "di", "ed", "fay", "gus")
SLIPS = ((), (1,), (2, 1), (4,))


def plain_votes(listings):
    """A going through of all votes, by the words of 5.11."""
    voters = sorted({voter for listing in listings for voter in listing[0]})
    slips = sorted({slip for listing in listings for slip in listing[1]})
    every = [dict(zip(voters, some)) for some in itertools.product(slips, repeat=len(voters))]
    return [votes for votes in every if fits(listings, votes)]


def plain_known(listings):
    every = plain_votes(listings)
    rows = [(voter, sorted({votes[voter] for votes in every})) for voter in (every[0] if every else ())]
    return {voter: slips[0] for voter, slips in rows if len(slips) == 1}


def drawn_listings(draw):
    """Listings of some votes; sometimes of unlike ones, so that perhaps none fit."""
    many_voters, many_slips = draw.choice(((7, 3), (6, 4), (5, 2), (4, 3)))
    voters, slips = VOTERS[:many_voters], SLIPS[:many_slips]
    votes = {voter: draw.choice(slips) for voter in voters}
    listings = []
    for _ in range(draw.randint(1, 4)):
        some = draw.sample(voters, draw.randint(1, len(voters)))
        if draw.random() < 0.15:
            votes = {voter: draw.choice(slips) for voter in voters}
        listings.append(listing_of(votes, some))
    return listings


class Plain(unittest.TestCase):
    """[5.12] [5.13]"""

    def held_against_all_votes(self, listings):
        every = plain_votes(listings)
        self.assertEqual(how_many(listings), len(every))
        self.assertIs(clash(listings), not every)
        self.assertEqual(list(known(listings).items()), sorted(plain_known(listings).items()))
        for voter in sorted({voter for listing in listings for voter in listing[0]}):
            said = sorted({votes[voter] for votes in every})
            self.assertEqual(may_say(listings, voter), said)
            for slip in SLIPS + ((1, 2),):
                votes = votes_with(listings, voter, slip)
                if slip in said:
                    self.assertTrue(fits(listings, votes))
                    self.assertEqual(votes[voter], slip)
                else:
                    self.assertIsNone(votes)

    def test_drawn_listings(self):
        draw = random.Random(512)
        clashes = 0
        for _ in range(60):
            listings = drawn_listings(draw)
            self.held_against_all_votes(listings)
            clashes = clashes + clash(listings)
            before = plain_known(listings[1:])
            self.assertEqual(
                newly_known(listings[1:], listings[0]),
                [voter for voter in sorted(plain_known(listings)) if voter not in before],
            )
        self.assertGreater(clashes, 3)
        self.assertLess(clashes, 57)

    def test_one_listing_twice(self):
        one = (("ann", "bob", "cy"), ((), (1,), (1,)))
        self.held_against_all_votes([one, one])
        self.assertEqual(how_many([one, one]), 3)
        self.assertEqual(groups([one, one]), [["ann", "bob", "cy"]])
        self.assertEqual(newly_known([one], one), [])

    def test_one_voter_alone(self):
        one = (("ann",), ((2, 1),))
        self.held_against_all_votes([one])
        self.assertEqual(known([one]), {"ann": (2, 1)})

    def test_slips_alike(self):
        one = (("ann", "bob"), ((1,), (1,)))
        self.assertEqual((how_many([one]), known([one])), (1, {"ann": (1,), "bob": (1,)}))

    def test_no_votes_fit(self):
        listings = [(("ann",), ((1,),)), (("ann", "bob"), ((), (2, 1)))]
        self.held_against_all_votes(listings)
        self.assertEqual((clash(listings), how_many(listings), known(listings)), (True, 0, {}))
        self.assertEqual((may_say(listings, "bob"), votes_with(listings, "bob", ())), ([], None))
        self.assertEqual(newly_known(listings[:1], listings[1]), [])

    def test_four_listings_with_all_voters(self):
        votes = dict(zip(VOTERS, [(), (1,), (2, 1), (), (1,), (2, 1), ()]))
        listings = [listing_of(votes, some) for some in (VOTERS, VOTERS[1:], VOTERS[:3], VOTERS[2:5])]
        self.held_against_all_votes(listings)

    def test_a_list_with_a_voter_fewer(self):
        whole = (("ann", "bob", "cy"), ((), (1,), (4,)))
        rest = (("ann", "cy"), ((), (4,)))
        self.assertEqual((known([whole]), known([rest])), ({}, {}))
        self.assertEqual(newly_known([whole], rest), ["bob"])
        self.assertEqual(newly_known([rest], whole), ["bob"])
        self.assertEqual(known([whole, rest]), {"bob": (1,)})


class NoListings(unittest.TestCase):
    """[5.12] [5.13]"""

    def test_no_listings(self):
        self.assertEqual((groups([]), clash([]), how_many([]), known([])), ([], False, 1, {}))
        self.assertEqual(newly_known([], (("ann",), ((),))), ["ann"])
        self.assertEqual((may_say([], "ann"), votes_with([], "ann", ())), ([], None))
        self.assertEqual(newly_known([], (("ann", "bob"), ((), (1,)))), [])


class Groups(unittest.TestCase):
    """[5.12]"""

    def test_by_first_voters(self):
        slips = ((), (), ())
        listings = [(("bob", "cy", "di"), slips), (("ann", "cy", "di"), slips), (("ed", "fay", "gus"), slips)]
        due = [["ann"], ["bob"], ["cy", "di"], ["ed", "fay", "gus"]]
        for order in itertools.permutations(listings):
            self.assertEqual(groups(list(order)), due)

    def test_just_the_same_listings(self):
        listings = [(("ann", "bob"), ((), ())), (("ann", "bob", "cy"), ((), (), ())), (("cy", "di"), ((), ()))]
        self.assertEqual(groups(listings), [["ann", "bob"], ["cy"], ["di"]])

    def test_drawn(self):
        draw = random.Random(5)
        for _ in range(40):
            listings = drawn_listings(draw)
            told = groups(listings)
            where = {voter: [voter in one[0] for one in listings] for one in listings for voter in one[0]}
            self.assertEqual(sorted(sum(told, [])), sorted(where))
            self.assertEqual(told, sorted(sorted(group) for group in told))
            for one, other in itertools.product(where, repeat=2):
                together = any(one in group and other in group for group in told)
                self.assertEqual(together, where[one] == where[other])


class Asked(unittest.TestCase):
    """[0.2]"""

    def test_what_is_told_is_the_askers_own(self):
        listings = [(("ann", "bob", "cy"), ((), (1,), (1,))), (("di",), ((1,),))]
        kept = list(listings)
        asks = (
            lambda: groups(listings), lambda: may_say(listings, "ann"), lambda: votes_with(listings, "ann", ()),
            lambda: known(listings), lambda: newly_known(listings[:1], listings[1]),
        )
        for ask in asks:
            self.assertTrue(is_told_anew(ask))
        self.assertEqual(listings, kept)
        one = (("ann",), ((),))
        newly_known(listings, one)
        self.assertEqual(listings, kept)
