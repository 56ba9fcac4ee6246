import random
import unittest

from tests.test_house import drawn_land, drawn_sheets
from tests.test_polls import DEEDS, poll_of
from tests.truths import LAND, WORDS
from wholepoll.house import House
from wholepoll.lands import Land
from wholepoll.lists import Lists
from wholepoll.notation import (
    show_deed, show_deeds, show_envelope, show_house, show_line, show_outcome, show_slip, show_telling,
)
from wholepoll.pairs import Pairs

MANY = ["a", "b", "c", "d", "e", "f", "g", "h", "i", "j", "k", "zzzzzzzz"]


class Slips(unittest.TestCase):
    """[12.1]"""

    def test_slips(self):
        words = ["ann", "bob", "cy"]
        for slip, due in (
            ((), "-"), ((1,), "ann"), ((4,), "cy"), ((3, 4), "ann=bob>cy"), ((4, 3), "cy>ann=bob"), ((7,), "ann=bob=cy"), ((2, 4, 1), "bob>cy>ann"),
        ):
            self.assertEqual(show_slip(slip, words), due)
            self.assertEqual(show_line((slip, 12), words), "12:" + due)
        self.assertEqual(show_slip((4095,), MANY), "a=b=c=d=e=f=g=h=i=j=k=zzzzzzzz")
        self.assertEqual(show_slip((2048, 1), MANY), "zzzzzzzz>a")

    def test_by_the_numbers_of_hands_not_by_their_words(self):
        self.assertEqual(show_slip((3,), ["zoe", "ann"]), "zoe=ann")

    def test_lines(self):
        self.assertEqual(show_line(((1,), 1), WORDS), "1:red")
        self.assertEqual(show_line(((), 10 ** 9), WORDS), "1000000000:-")


class Deeds(unittest.TestCase):
    """[12.1]"""

    def test_tellings(self):
        for telling, due in (
            ((3, 5, "ann", "comes", 0), "roll 3 5 ann comes 0"), ((0, 0, "zz", "comes", 5), "roll 0 0 zz comes 5"),
            ((3, 5, "ann", "goes", None), "roll 3 5 ann goes"), ((10 ** 9, 10 ** 9, "ann", "barred", None), "roll 1000000000 1000000000 ann barred"),
            ((3, 5, "ann", "cleared", None), "roll 3 5 ann cleared"),
        ):
            self.assertEqual(show_telling(telling), due)
            self.assertEqual(show_deed(("roll", 17, telling), WORDS), "17 " + due)

    def test_envelopes(self):
        for envelope, due in (((4, "bob", 5, 6, (2, 1)), "mail 4 bob 5 6 green>red"), ((0, "x", 0, 0, ()), "mail 0 x 0 0 -")):
            self.assertEqual(show_envelope(envelope, WORDS), due)
            self.assertEqual(show_deed(("mail", 0, envelope), WORDS), "0 " + due)

    def test_other_deeds(self):
        for deed, due in (
            (("strike", 6, 31), "6 strike 31"), (("void", 0, 0), "0 void 0"), (("bundle", 7, 0, ()), "7 bundle 0"),
            (("bundle", 7, 1, (((1,), 3), ((), 2), ((1,), 1))), "7 bundle 1 3:red 2:- 1:red"),
            (("recount", 8, 7, (((6, 1), 6),)), "8 recount 7 6:green=blue>red"), (("recount", 8, 7, ()), "8 recount 7"),
        ):
            self.assertEqual(show_deed(deed, WORDS), due)

    def test_several(self):
        self.assertEqual(show_deeds([], WORDS), "")
        self.assertEqual(show_deeds([("void", 1, 2)], WORDS), "1 void 2\n")
        self.assertEqual(show_deeds(DEEDS, WORDS), "".join(show_deed(deed, WORDS) + "\n" for deed in DEEDS))
        self.assertEqual(show_deeds(DEEDS[:2] + DEEDS[:1], WORDS),
                         "1 roll 1 0 ann comes 0\n2 roll 2 0 bob comes 1\n1 roll 1 0 ann comes 0\n")

    def test_words_in_a_tuple(self):
        self.assertEqual(show_deeds(DEEDS, tuple(WORDS)), show_deeds(DEEDS, WORDS))


class Houses(unittest.TestCase):
    """[12.2]"""

    def plain(self, seats, words):
        return " ".join(f"{word}:{many}" for word, many in zip(words, seats) if many) or "nobody"

    def test_ordinary(self):
        house = poll_of(DEEDS).house()
        self.assertEqual(house.outcome(), ([[2, 0, 0], [0, 1, 0]], [1, 1, 0]))
        self.assertEqual(show_house(house, WORDS), "red:3 green:2")
        self.assertEqual(show_outcome(house, WORDS), "red:2\ngreen:1\nred:1 green:1\n")

    def test_nobody_has_a_seat(self):
        house = House(Land([Lists(3, 4), Lists(3, 2)], 5), [[], []])
        self.assertEqual(show_house(house, WORDS), "nobody")
        self.assertEqual(show_outcome(house, WORDS), "nobody\nnobody\nnobody\n")
        house = House(LAND, [[], []])
        self.assertEqual((show_house(house, WORDS), show_outcome(house, WORDS)), ("red:1", "nobody\nred:1\nnobody\n"))

    def test_drawn(self):
        draw = random.Random(122)
        for _ in range(60):
            land = drawn_land(draw, (Lists, Pairs))
            house, words = House(land, drawn_sheets(draw, land)), MANY[-land.hands:]
            by_area, evened = house.outcome()
            self.assertEqual(show_house(house, words), self.plain(house.in_all(), words))
            self.assertEqual(show_outcome(house, words), "".join(self.plain(seats, words) + "\n" for seats in by_area + [evened]))
