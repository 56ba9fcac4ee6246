import itertools
import unittest

from tests.things import anything_but_lists, anything_but_numbers
from wholepoll.ballots import lies, prefers, ranks_of, slip_of
from wholepoll.errors import NoBallot


def all_slips(hands):
    return sorted({slip_of(list(ranks), hands) for ranks in itertools.product(range(hands + 1), repeat=hands)})


class SlipOf(unittest.TestCase):
    """[2.2] [0.3]"""

    def test_examples(self):
        self.assertEqual(slip_of([3, 0, 1, 3], 4), (4, 9))
        self.assertEqual(slip_of([0, 0], 2), ())

    def test_level_hands_gaps_and_unranked_ones(self):
        self.assertEqual(slip_of([1, 1, 1], 3), (7,))
        self.assertEqual(slip_of([10 ** 9, 5, 5], 3), (6, 1))
        self.assertEqual(slip_of([0, 7, 0], 3), (2,))
        self.assertEqual(slip_of([1], 1), (1,))
        self.assertEqual(slip_of([0], 1), ())
        self.assertEqual(slip_of(list(range(12, 0, -1)), 12), tuple(2 ** hand for hand in range(11, -1, -1)))
        self.assertEqual(slip_of([10 ** 9] * 12, 12), (4095,))
        self.assertEqual(slip_of([2, 4, 9], 3), slip_of([1, 2, 3], 3))

    def test_no_ballot_for_other_kinds(self):
        for thing in anything_but_lists():
            with self.assertRaises(NoBallot):
                slip_of(thing, 2)
        for thing in anything_but_numbers():
            for ranks in ([thing, 1], [1, thing]):
                with self.assertRaises(NoBallot):
                    slip_of(ranks, 2)

    def test_no_ballot_for_other_lists(self):
        for ranks, hands in (
            ([], 1), ([1], 2), ([1, 2, 3], 2), ([1] * 13, 12), ([-1, 1], 2), ([1, 10 ** 9 + 1], 2), ([10 ** 60], 1),
            ([True, 2], 2), ([0, False], 2), ((1, 2), 2),
        ):
            with self.assertRaises(NoBallot):
                slip_of(ranks, hands)

    def test_ranks_stay(self):
        """[0.2]"""
        ranks = [5, 0, 2]
        slip_of(ranks, 3)
        self.assertEqual(ranks, [5, 0, 2])


class RanksOf(unittest.TestCase):
    """[2.3]"""

    def test_without_gaps(self):
        self.assertEqual(ranks_of((4, 9), 4), [2, 0, 1, 2])
        self.assertEqual(ranks_of((), 3), [0, 0, 0])
        self.assertEqual(ranks_of((), 1), [0])
        self.assertEqual(ranks_of((2048, 1), 12), [2] + [0] * 10 + [1])
        self.assertEqual(ranks_of(tuple(2 ** hand for hand in range(12)), 12), list(range(1, 13)))

    def test_there_and_back(self):
        for hands in (1, 2, 3, 4):
            slips = all_slips(hands)
            told = [ranks_of(slip, hands) for slip in slips]
            self.assertEqual([slip_of(ranks, hands) for ranks in told], slips)
            self.assertEqual(len({tuple(ranks) for ranks in told}), len(slips))
            for ranks in told:
                used = sorted(set(ranks) - {0})
                self.assertEqual(used, list(range(1, len(used) + 1)))

    def test_a_new_list(self):
        """[0.2]"""
        first = ranks_of((1,), 2)
        first[0] = 9
        self.assertEqual(ranks_of((1,), 2), [1, 0])


class Prefers(unittest.TestCase):
    """[2.4]"""

    def test_each_sign(self):
        self.assertEqual(prefers((4, 9), 2, 0), 1)
        self.assertEqual(prefers((4, 9), 0, 2), -1)
        self.assertEqual(prefers((4, 9), 0, 3), 0)
        self.assertEqual(prefers((4, 9), 3, 1), 1)
        self.assertEqual(prefers((4, 9), 1, 3), -1)
        self.assertEqual(prefers((4,), 0, 1), 0)
        self.assertEqual(prefers((), 0, 1), 0)
        self.assertEqual(prefers((1, 2048), 11, 5), 1)

    def test_by_ranks(self):
        for slip in all_slips(4):
            ranks = [rank if rank > 0 else 99 for rank in ranks_of(slip, 4)]
            for x in range(4):
                self.assertEqual(prefers(slip, x, x), 0)
                for y in range(4):
                    due = (ranks[x] < ranks[y]) - (ranks[y] < ranks[x])
                    self.assertEqual(prefers(slip, x, y), due)
                    self.assertEqual(prefers(slip, y, x), -due)


class Lies(unittest.TestCase):
    """[2.5]"""

    def test_lies(self):
        self.assertEqual(lies((4, 9), 15), 4)
        self.assertEqual(lies((4, 9), 11), 9)
        self.assertEqual(lies((4, 9), 3), 1)
        self.assertEqual(lies((4, 9), 2), 0)
        self.assertEqual(lies((7,), 5), 5)
        self.assertEqual(lies((), 7), 0)
        self.assertEqual(lies((1, 2), 0), 0)
        self.assertEqual(lies((), 0), 0)
        self.assertEqual(lies((1, 2048), 2048 + 2), 2048)
