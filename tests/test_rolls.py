import itertools
import unittest

from tests.land import plain_barred, plain_place, plain_standing, plain_votes_in, some_tellings
from tests.things import anything_but_numbers, anything_but_tuples, no_wholes
from wholepoll.errors import NoRoll, NoTelling
from wholepoll.rolls import Roll

MOST = 10 ** 9
COMES = (1, 5, "ann", "comes", 0)
MOVES = (2, 8, "ann", "comes", 1)
GOES = (3, 12, "ann", "goes", None)
BARRED = (4, 6, "bob", "barred", None)
ALL = [COMES, MOVES, GOES, BARRED]


class Made(unittest.TestCase):
    """[3.3]"""

    def test_areas(self):
        for areas in range(1, 7):
            self.assertEqual(Roll(areas).areas, areas)
        for areas in [0, 7, -1, 10 ** 60] + anything_but_numbers():
            with self.assertRaises(NoRoll):
                Roll(areas)

    def test_a_list_and_a_tuple_of_tellings(self):
        self.assertEqual(Roll(2, ALL).told(), ALL)
        self.assertEqual(Roll(2, tuple(ALL)).told(), ALL)
        self.assertEqual(Roll(2, []).told(), [])
        self.assertEqual(Roll(6, [(0, 0, "a", "comes", 5)]).told(), [(0, 0, "a", "comes", 5)])

    def test_other_tellings(self):
        for thing in no_wholes() + [0, 1, "", "comes", [1], (1,), [[]], ((),), COMES, {COMES: True}, {COMES}]:
            with self.assertRaises(NoRoll):
                Roll(2, thing)
        for thing in anything_but_tuples() + [(), (0, 0, "a", "comes"), (0, 0, "a", "comes", 2), list(COMES), (True,) + COMES[1:]]:
            with self.assertRaises(NoRoll):
                Roll(2, [thing])
            with self.assertRaises(NoRoll):
                Roll(2, (COMES, thing))

    def test_a_list_that_was_handed_in_goes_on_by_itself(self):
        """[0.2]"""
        tellings = [COMES]
        roll = Roll(2, tellings)
        tellings.append(MOVES)
        self.assertEqual(roll.told(), [COMES])
        roll.tell(GOES)
        self.assertEqual(tellings, [COMES, MOVES])


class Told(unittest.TestCase):
    """[3.3]"""

    def test_tell_answers_whether_new(self):
        roll = Roll(2)
        self.assertIs(roll.tell(COMES), True)
        self.assertIs(roll.tell(COMES), False)
        self.assertIs(roll.tell(COMES[:4] + (1,)), True)
        self.assertEqual(roll.told(), [COMES, COMES[:4] + (1,)])
        self.assertEqual(roll.clashes(), [1])

    def test_tell_refused(self):
        roll = Roll(2, ALL)
        for thing in anything_but_tuples() + [(), (9, 0, "a", "comes", 2), (9, 0, "a", "comes", None), list(COMES), (True,) + COMES[1:]]:
            with self.assertRaises(NoRoll):
                roll.tell(thing)
        self.assertEqual(roll, Roll(2, ALL))

    def test_untell(self):
        roll = Roll(2, ALL)
        self.assertIsNone(roll.untell(MOVES))
        self.assertEqual(roll.told(), [COMES, GOES, BARRED])
        self.assertIs(roll.tell(MOVES), True)
        torn = COMES[:4] + (1,)
        roll.tell(torn)
        self.assertIsNone(roll.place("ann", 5))
        roll.untell(torn)
        self.assertEqual(roll.place("ann", 5), 0)

    def test_told_several_times_and_taken_back_once(self):
        roll = Roll(2, [COMES, COMES])
        roll.tell(COMES)
        roll.untell(COMES)
        self.assertEqual(roll.told(), [])

    def test_untell_refused(self):
        roll = Roll(2, ALL)
        truth = (True,) + COMES[1:]
        others = [(), COMES[:4] + (1,), (9,) + COMES[1:], (9, 0, "a", "comes", 5), list(COMES), truth, COMES[:4] + (False,)]
        for thing in anything_but_tuples() + others + [([],) * 5]:
            with self.assertRaises(NoTelling):
                roll.untell(thing)
        self.assertEqual(roll, Roll(2, ALL))
        roll.untell(COMES)
        with self.assertRaises(NoTelling):
            roll.untell(COMES)

    def test_order(self):
        rising = [
            (0, 9, "z", "goes", None), (1, 1, "b", "comes", 0), (1, 1, "b", "comes", 1), (1, 1, "b", "goes", None),
            (1, 2, "a", "barred", None), (1, 2, "a", "cleared", None), (1, 2, "b", "barred", None), (2, 0, "a", "comes", 0),
        ]
        self.assertEqual(Roll(2, rising[::-1]).told(), rising)
        self.assertEqual(Roll(2, rising[3:] + rising[:3] + rising).told(), rising)
        self.assertEqual(Roll(2, rising).clashes(), [1])

    def test_told_lists_are_new(self):
        """[0.2]"""
        roll = Roll(2, ALL)
        for told in (roll.told(), roll.clashes(), roll.voters(0, 6, 0), roll.everybody()):
            told.append("more")
        self.assertEqual((roll.told(), roll.clashes()), (ALL, []))
        self.assertEqual((roll.voters(0, 6, 0), roll.everybody()), (["ann"], ["ann", "bob"]))


class Alike(unittest.TestCase):
    """[3.3]"""

    def test_equal(self):
        for order in itertools.permutations(ALL):
            self.assertTrue(Roll(2, list(order) + [COMES]) == Roll(2, ALL))
            self.assertFalse(Roll(2, list(order)) != Roll(2, ALL))

    def test_unlike(self):
        self.assertFalse(Roll(2, ALL) == Roll(3, ALL))
        self.assertTrue(Roll(2, ALL) != Roll(3, ALL))
        self.assertFalse(Roll(2, ALL) == Roll(2, ALL[1:]))
        self.assertTrue(Roll(2, ALL) != Roll(2, ALL[1:]))
        self.assertFalse(Roll(2) == 2)
        self.assertTrue(Roll(2) != [])

    def test_other_things(self):
        for thing in [None, 2, "roll", ALL, tuple(ALL), {}, object()]:
            self.assertIs(Roll(2, ALL) == thing, False)
            self.assertIs(Roll(2, ALL) != thing, True)

    def test_what_does_not_stand_counts_too(self):
        torn = [COMES, COMES[:4] + (1,)]
        self.assertFalse(Roll(2, torn) == Roll(2))

    def test_joined(self):
        one, other = Roll(2, ALL[:3]), Roll(2, ALL[1:] + [COMES[:4] + (1,)])
        both = one | other
        self.assertEqual(both, Roll(2, ALL + [COMES[:4] + (1,)]))
        self.assertEqual(both, other | one)
        self.assertEqual(both.clashes(), [1])
        both.untell(GOES)
        self.assertEqual((one, other.told()[-1]), (Roll(2, ALL[:3]), BARRED))
        self.assertIn(GOES, other.told())

    def test_joined_refused(self):
        for areas in (1, 3):
            with self.assertRaises(NoRoll):
                Roll(2, ALL) | Roll(areas)

    def test_copied(self):
        roll = Roll(2, ALL)
        copy = roll.copied()
        self.assertEqual(copy, roll)
        copy.untell(COMES)
        roll.tell((9, 1, "cy", "comes", 0))
        self.assertEqual(copy, Roll(2, ALL[1:]))
        self.assertEqual(roll, Roll(2, ALL + [(9, 1, "cy", "comes", 0)]))


class Where(unittest.TestCase):
    """[3.4]"""

    def test_place(self):
        roll = Roll(2, ALL)
        days = (0, 4, 5, 7, 8, 11, 12, MOST)
        self.assertEqual([roll.place("ann", day) for day in days], [None, None, 0, 0, 1, 1, None, None])
        self.assertEqual([roll.place("bob", 9), roll.place("nobody", 9)], [None, None])
        self.assertEqual(Roll(1, [(0, 0, "a", "comes", 0)]).place("a", 0), 0)

    def test_several_of_one_day_go_by_number(self):
        tellings = [(9, 3, "a", "comes", 1), (8, 3, "a", "goes", None), (7, 3, "a", "comes", 0)]
        self.assertEqual(Roll(2, tellings).place("a", 3), 1)
        self.assertIsNone(Roll(2, tellings[1:]).place("a", 3))

    def test_barred_and_cleared(self):
        roll = Roll(1, [(1, 0, "a", "comes", 0), (2, 3, "a", "barred", None), (3, 6, "a", "cleared", None)])
        self.assertEqual([roll.is_barred("a", day) for day in (0, 2, 3, 5, 6, 9)], [False, False, True, True, False, False])
        self.assertEqual([roll.votes_in("a", day, 0) for day in (0, 2, 3, 5, 6, 9)], [0, 0, None, None, 0, 0])
        self.assertEqual([roll.place("a", day) for day in (2, 3, 6)], [0, 0, 0])
        # Barred then, but not on the day itself.
        self.assertEqual(roll.votes_in("a", 7, 3), 0)
        self.assertIs(roll.is_barred("nobody", 5), False)

    def test_votes_in(self):
        roll = Roll(2, ALL)
        self.assertEqual([roll.votes_in("ann", day, 0) for day in (4, 5, 8, 12)], [None, 0, 1, None])
        self.assertEqual([roll.votes_in("ann", day, 3) for day in (5, 7, 8, 10, 11, 12)], [None, None, 0, 0, 1, None])
        self.assertIsNone(roll.votes_in("bob", 9, 0))
        self.assertIsNone(roll.votes_in("nobody", 9, 0))

    def test_waits_below_day_nought(self):
        roll = Roll(1, [(0, 0, "a", "comes", 0)])
        self.assertEqual([roll.votes_in("a", 3, wait) for wait in (0, 2, 3, 4, MOST)], [0, 0, 0, None, None])
        self.assertEqual(roll.votes_in("a", MOST, MOST), 0)
        self.assertIsNone(roll.votes_in("a", MOST - 1, MOST))

    def test_voters_and_everybody_rise(self):
        names = ("mo", "a", "zed", "al", "b")
        tellings = [(k, 0, name, "comes", k % 2) for k, name in enumerate(names)]
        roll = Roll(2, tellings + [(9, 0, "cy", "barred", None), (10, 0, "dy", "goes", None), (10, 0, "dy", "barred", None)])
        self.assertEqual(roll.voters(0, 1, 1), ["b", "mo", "zed"])
        self.assertEqual(roll.voters(1, 1, 1), ["a", "al"])
        self.assertEqual(roll.voters(0, 1, 2), [])
        self.assertEqual(roll.everybody(), ["a", "al", "b", "cy", "mo", "zed"])
        self.assertEqual((Roll(2).voters(0, 5, 0), Roll(2).everybody()), ([], []))

    def test_by_the_plain_words(self):
        voters = ("ann", "bob", "cy", "dy")
        for seed in range(25):
            tellings = some_tellings(seed, 14)
            roll = Roll(3, tellings)
            self.assertEqual(roll.everybody(), sorted({telling[2] for telling in plain_standing(tellings)}))
            for day in range(10):
                for voter in voters:
                    self.assertEqual(roll.place(voter, day), plain_place(tellings, voter, day))
                    self.assertIs(roll.is_barred(voter, day), plain_barred(tellings, voter, day))
                for wait in (0, 1, 4):
                    homes = {voter: plain_votes_in(tellings, voter, day, wait) for voter in voters}
                    self.assertEqual({voter: roll.votes_in(voter, day, wait) for voter in voters}, homes)
                    for area in range(3):
                        self.assertEqual(roll.voters(area, day, wait), [voter for voter in voters if homes[voter] == area])
