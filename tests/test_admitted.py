import random
import unittest

from tests.land import plain_votes_in, some_tellings
from tests.things import anything_but_numbers
from wholepoll.admitted import counted, heard, mailed, struck_turns, verdict, verdicts
from wholepoll.envelopes import standing_envelopes
from wholepoll.errors import NoEnvelope
from wholepoll.rolls import Roll

RULES = (100, 10, 50, 99)
ROLL = Roll(3, [
    (1, 0, "ann", "comes", 0), (2, 0, "bob", "comes", 1), (3, 0, "cy", "comes", 1), (4, 95, "dy", "comes", 0),
    (5, 0, "eve", "comes", 0), (6, 60, "eve", "barred", None), (7, 0, "fay", "comes", 0), (8, 95, "fay", "comes", 1),
])
SLIP = (1, 2)


def plain_verdicts(roll, rules, envelopes, struck):
    """[4.2] word by word."""
    day, wait, first, last = rules
    words = {}
    for one in standing_envelopes(envelopes):
        home = plain_votes_in(roll.told(), one[1], day, wait)
        ahead = [other for other in standing_envelopes(envelopes) if (other[3], other[0]) < (one[3], one[0])]
        if one[0] in struck:
            words[one[0]] = "struck"
        elif one[3] < first:
            words[one[0]] = "early"
        elif one[3] > last:
            words[one[0]] = "late"
        elif home is None:
            words[one[0]] = "stranger"
        elif home != one[2]:
            words[one[0]] = "elsewhere"
        elif [other for other in ahead if other[1] == one[1] and words[other[0]] == "counts"]:
            words[one[0]] = "again"
        else:
            words[one[0]] = "counts"
    return dict(sorted(words.items()))


def some_envelopes(seed):
    draw = random.Random(seed)
    voters = ("ann", "bob", "cy", "dy")
    return [
        (draw.randrange(30), draw.choice(voters), draw.randrange(4), draw.randrange(8), draw.choice(((), (1,), (2, 1))))
        for _ in range(20)
    ]


class Verdicts(unittest.TestCase):
    """[4.2] [4.3]"""

    def word(self, envelope, struck=()):
        return verdict(ROLL, RULES, [envelope], list(struck), envelope[0])

    def test_each_word(self):
        self.assertEqual(self.word((9, "ann", 0, 50, SLIP)), "counts")
        self.assertEqual(self.word((9, "ann", 0, 99, ())), "counts")
        self.assertEqual(self.word((9, "ann", 0, 60, SLIP), [9]), "struck")
        self.assertEqual(self.word((9, "ann", 0, 49, SLIP)), "early")
        self.assertEqual(self.word((9, "ann", 0, 100, SLIP)), "late")
        self.assertEqual(self.word((9, "nobody", 0, 60, SLIP)), "stranger")
        self.assertEqual(self.word((9, "dy", 0, 96, SLIP)), "stranger")
        self.assertEqual(self.word((9, "eve", 0, 55, SLIP)), "stranger")
        self.assertEqual(self.word((9, "ann", 1, 60, SLIP)), "elsewhere")
        self.assertEqual(self.word((9, "ann", 5, 60, SLIP)), "elsewhere")
        self.assertEqual(self.word((9, "fay", 0, 97, SLIP)), "counts")
        self.assertEqual(self.word((9, "fay", 1, 97, SLIP)), "elsewhere")

    def test_the_first_word_that_fits(self):
        self.assertEqual(self.word((9, "nobody", 5, 0, SLIP), [9]), "struck")
        self.assertEqual(self.word((9, "nobody", 5, 0, SLIP)), "early")
        self.assertEqual(self.word((9, "nobody", 5, 100, SLIP)), "late")
        self.assertEqual(self.word((9, "ann", 1, 49, SLIP)), "early")
        ahead = (1, "ann", 0, 60, SLIP)
        for envelope, struck, word in (
            ((9, "ann", 0, 70, SLIP), [9], "struck"), ((9, "ann", 0, 100, SLIP), [], "late"),
            ((9, "ann", 1, 70, SLIP), [], "elsewhere"), ((9, "ann", 0, 70, SLIP), [], "again"),
        ):
            self.assertEqual(verdicts(ROLL, RULES, [ahead, envelope], struck), {1: "counts", 9: word})

    def test_again_only_behind_one_that_counts(self):
        others = [(7, "ann", 0, 60, ()), (3, "ann", 0, 60, ()), (5, "ann", 0, 59, ()), (1, "bob", 1, 70, ())]
        self.assertEqual(verdicts(ROLL, RULES, others, []), {1: "counts", 3: "again", 5: "counts", 7: "again"})
        self.assertEqual(verdicts(ROLL, RULES, others, [5]), {1: "counts", 3: "counts", 5: "struck", 7: "again"})
        self.assertEqual(verdicts(ROLL, RULES, others, [3, 5, 3]), {1: "counts", 3: "struck", 5: "struck", 7: "counts"})
        behind = [(1, "ann", 1, 60, ()), (2, "ann", 0, 49, ()), (3, "ann", 0, 70, ())]
        self.assertEqual(verdicts(ROLL, RULES, behind, []), {1: "elsewhere", 2: "early", 3: "counts"})

    def test_numbers_rise(self):
        envelopes = [(7, "ann", 0, 51, ()), (3, "ann", 0, 60, ()), (5, "bob", 1, 55, ())]
        self.assertEqual(list(verdicts(ROLL, RULES, envelopes, [])), [3, 5, 7])

    def test_what_does_not_stand_has_no_word(self):
        torn = [(4, "ann", 0, 55, ()), (4, "ann", 0, 55, (1,)), (5, "ann", 0, 60, ()), (5, "ann", 0, 60, ())]
        self.assertEqual(verdicts(ROLL, RULES, torn, []), {5: "counts"})
        self.assertEqual(verdicts(ROLL, RULES, [], []), {})

    def test_struck_numbers_of_no_envelope(self):
        self.assertEqual(verdicts(ROLL, RULES, [(4, "ann", 0, 55, ())], [5, 5, 0]), {4: "counts"})

    def test_no_envelope(self):
        torn = [(4, "ann", 0, 55, ()), (4, "ann", 0, 55, (1,)), (1, "ann", 0, 60, ()), (0, "bob", 1, 60, ())]
        self.assertEqual(verdict(ROLL, RULES, torn, [], 1), "counts")
        self.assertEqual(verdict(ROLL, RULES, torn, [], 0), "counts")
        for number in [4, 2, -1, 10 ** 60] + anything_but_numbers():
            with self.assertRaises(NoEnvelope):
                verdict(ROLL, RULES, torn, [], number)

    def test_by_the_plain_words(self):
        for seed in range(40):
            roll = Roll(3, some_tellings(seed, 10))
            envelopes = some_envelopes(seed)
            for rules, struck in (((5, 1, 2, 6), []), ((8, 0, 0, 9), [1, 4, 9, 9, 14])):
                due = plain_verdicts(roll, rules, envelopes, struck)
                told = verdicts(roll, rules, envelopes, struck)
                self.assertEqual(list(told.items()), list(due.items()))
                may_vote = [plain_votes_in(roll.told(), voter, rules[0], rules[1]) for voter in ("ann", "bob", "cy", "dy")]
                counting = [one for one in sorted(standing_envelopes(envelopes)) if due[one[0]] == "counts"]
                areas = [one[2] for one in counting]
                self.assertEqual(counted(roll, rules, envelopes, struck), counting)
                self.assertEqual(
                    heard(roll, rules, envelopes, struck), [(may_vote.count(area), areas.count(area)) for area in range(3)]
                )
                for number in due:
                    self.assertEqual(verdict(roll, rules, envelopes, struck, number), due[number])
                    if number not in struck:
                        after = plain_verdicts(roll, rules, envelopes, struck + [number])
                        turns = [(k, after[k]) for k in after if after[k] != due[k]]
                        self.assertEqual(list(struck_turns(roll, rules, envelopes, struck, number).items()), turns)


class Counted(unittest.TestCase):
    """[4.3] [4.4]"""

    ENVELOPES = [
        (9, "ann", 0, 55, (1,)), (2, "bob", 1, 70, (2, 1)), (4, "cy", 1, 60, (2, 1)), (3, "cy", 1, 61, ()),
        (1, "dy", 0, 96, ()), (5, "fay", 0, 60, ()),
    ]

    def test_counted(self):
        due = [(2, "bob", 1, 70, (2, 1)), (4, "cy", 1, 60, (2, 1)), (5, "fay", 0, 60, ()), (9, "ann", 0, 55, (1,))]
        self.assertEqual(counted(ROLL, RULES, self.ENVELOPES, []), due)
        self.assertEqual(counted(ROLL, RULES, self.ENVELOPES, [5, 5, 9]), due[:2])
        self.assertEqual(counted(ROLL, RULES, [], []), [])

    def test_mailed(self):
        self.assertEqual(mailed(ROLL, RULES, self.ENVELOPES, []), [[((), 1), ((1,), 1)], [((2, 1), 2)], []])
        self.assertEqual(mailed(Roll(2), RULES, self.ENVELOPES, []), [[], []])

    def test_heard(self):
        self.assertEqual(heard(ROLL, RULES, self.ENVELOPES, []), [(2, 2), (2, 2), (0, 0)])
        self.assertEqual(heard(ROLL, RULES, self.ENVELOPES, [4, 3]), [(2, 2), (2, 1), (0, 0)])
        self.assertEqual(heard(Roll(1), RULES, [], []), [(0, 0)])

    def test_struck_turns(self):
        turns = [struck_turns(ROLL, RULES, self.ENVELOPES, [], number) for number in (9, 4, 3, 1)]
        self.assertEqual(turns, [{9: "struck"}, {3: "counts", 4: "struck"}, {3: "struck"}, {1: "struck"}])
        more = self.ENVELOPES + [(8, "cy", 0, 60, ()), (7, "cy", 1, 62, ())]
        self.assertEqual(list(struck_turns(ROLL, RULES, more, [], 4).items()), [(3, "counts"), (4, "struck")])
        self.assertEqual(struck_turns(ROLL, RULES, more, [3], 4), {4: "struck", 7: "counts"})

    def test_what_is_handed_in_stays(self):
        """[0.2]"""
        envelopes, struck = list(self.ENVELOPES), [5]
        before = ROLL.told()
        verdicts(ROLL, RULES, envelopes, struck).clear()
        struck_turns(ROLL, RULES, envelopes, struck, 4).clear()
        counted(ROLL, RULES, envelopes, struck).clear()
        mailed(ROLL, RULES, envelopes, struck)[0].append(1)
        heard(ROLL, RULES, envelopes, struck).clear()
        self.assertEqual((envelopes, struck, ROLL.told()), (self.ENVELOPES, [5], before))
        sheets = mailed(Roll(3), RULES, [], [])
        sheets[0].append(1)
        self.assertEqual(sheets, [[1], [], []])
