import unittest

from tests.things import anything_but_numbers
from wholepoll.boxes import Box
from wholepoll.codes import code_of
from wholepoll.errors import NoBallot, NoBundle, NoSheet, NoWay, Torn, WrongNumber
from wholepoll.seals import seal_of

MOST = 10 ** 9
FIRST = [((2, 1), 5), ((), 3), ((2, 1), 2)]
SECOND = [((1,), 4)]


def codes_of(lines, hands=2):
    return [code_of(line, hands) for line in lines]


def take(box, lines):
    codes = codes_of(lines, box.hands)
    return box.take(codes, seal_of(codes))


def told_by(box):
    bundles = [(box.lines_at(k), box.sheet_at(k), box.seal_at(k)) for k in range(box.many())]
    return (box.hands, box.many(), bundles, box.sheet())


class Made(unittest.TestCase):
    """[5.6]"""

    def test_hands(self):
        for hands in range(1, 13):
            box = Box(hands)
            self.assertEqual((box.hands, box.many(), box.sheet()), (hands, 0, []))
        for hands in [0, 13, -1, 10 ** 60] + anything_but_numbers():
            with self.assertRaises(NoWay):
                Box(hands)


class Taken(unittest.TestCase):
    """[5.7] [5.8]"""

    def test_numbers_and_places(self):
        box = Box(2)
        self.assertEqual(take(box, FIRST), (0, 0))
        codes = codes_of(FIRST)
        self.assertEqual(box.take([codes[0], codes[1] + 40, codes[2]], seal_of(codes)), (1, 2))
        self.assertEqual(take(box, []), (2, 0))
        self.assertEqual(box.take([-7], seal_of(codes_of(SECOND))), (3, 1))
        self.assertEqual(box.many(), 4)
        self.assertEqual([box.lines_at(k) for k in range(4)], [FIRST, FIRST, [], SECOND])

    def test_lines_as_they_lie(self):
        box = Box(2)
        take(box, FIRST)
        self.assertEqual(box.lines_at(0), FIRST)
        self.assertEqual(box.sheet_at(0), [((), 3), ((2, 1), 7)])
        self.assertEqual(box.seal_at(0), seal_of(codes_of(FIRST)))

    def test_the_sheet_of_all(self):
        bundles = [FIRST, SECOND, [], FIRST[::-1]]
        due = [((), 6), ((1,), 4), ((2, 1), 14)]
        for order in (bundles, bundles[::-1]):
            box = Box(2)
            for lines in order:
                take(box, lines)
            self.assertEqual(box.sheet(), due)

    def test_a_bundle_of_no_codes(self):
        box = Box(1)
        self.assertEqual(take(box, []), (0, 0))
        self.assertEqual((box.lines_at(0), box.sheet_at(0), box.seal_at(0)), ([], [], (0, 0, 0, 0)))
        self.assertEqual(box.put_right(0, []), 0)
        with self.assertRaises(WrongNumber):
            box.put_right(0, [((), 1)])

    def test_torn_ahead_of_no_ballot(self):
        box = Box(2)
        take(box, SECOND)
        before = told_by(box)
        codes = codes_of(FIRST)
        for sealed, found, refusal in (
            (codes, codes[:2], Torn), (codes, codes[::-1] + [0], Torn), (codes, [0, 0, codes[2]], Torn),
            ([5, 6], [5, 6], NoBallot), ([codes[0], 0], [codes[0], 0], NoBallot), ([0, codes[0]], [1, codes[0]], NoBallot),
            ([-codes[0]], [-codes[0]], NoBallot), ([0, 0], [1, 1], Torn),
        ):
            with self.assertRaises(refusal):
                box.take(found, seal_of(sealed))
            self.assertEqual(told_by(box), before)
        self.assertEqual(take(box, FIRST), (1, 0))

    def test_an_altered_code_that_is_a_line_is_mended(self):
        box = Box(2)
        codes = codes_of(FIRST)
        self.assertEqual(box.take([codes[0] + 169] + codes[1:], seal_of(codes)), (0, 1))
        self.assertEqual(box.lines_at(0), FIRST)

    def test_what_is_handed_in_and_told_goes_on_by_itself(self):
        """[0.2]"""
        box = Box(2)
        codes = codes_of(FIRST)
        box.take(codes, seal_of(codes))
        self.assertEqual(codes, codes_of(FIRST))
        codes.clear()
        for told in (box.lines_at(0), box.sheet_at(0), box.sheet()):
            told.append(((1,), 1))
        self.assertEqual(box.lines_at(0), FIRST)
        self.assertEqual(box.sheet_at(0), [((), 3), ((2, 1), 7)])
        self.assertEqual(box.sheet(), [((), 3), ((2, 1), 7)])


class PutRight(unittest.TestCase):
    """[5.9] [5.10]"""

    def box(self):
        box = Box(2)
        take(box, FIRST)
        take(box, SECOND)
        return box

    def test_recounts(self):
        box = self.box()
        self.assertEqual(box.put_right(0, FIRST[::-1]), 0)
        self.assertEqual(box.lines_at(0), FIRST[::-1])
        self.assertEqual(box.seal_at(0), seal_of(codes_of(FIRST[::-1])))
        self.assertEqual(box.put_right(0, [((2, 1), 7), ((), 3)]), 0)
        lines = [((1,), 1), ((2, 1), 4), ((), 4), ((1,), 1)]
        self.assertEqual(box.put_right(0, lines), 3)
        self.assertEqual(box.lines_at(0), lines)
        self.assertEqual(box.sheet_at(0), [((), 4), ((1,), 2), ((2, 1), 4)])
        self.assertEqual(box.seal_at(0), seal_of(codes_of(lines)))
        self.assertEqual(box.put_right(1, [((3,), 4)]), 4)
        self.assertEqual(box.sheet(), [((), 4), ((1,), 2), ((2, 1), 4), ((3,), 4)])
        self.assertEqual(box.many(), 2)
        self.assertEqual(take(box, FIRST), (2, 0))

    def test_no_bundle(self):
        box = self.box()
        before = told_by(box)
        for k in [2, -1, 10 ** 60] + anything_but_numbers():
            for ask in (box.lines_at, box.sheet_at, box.seal_at):
                with self.assertRaises(NoBundle):
                    ask(k)
            for lines in (FIRST, [((1,), 0)], [((1,), 1)]):
                with self.assertRaises(NoBundle):
                    box.put_right(k, lines)
        with self.assertRaises(NoBundle):
            Box(2).lines_at(0)
        self.assertEqual(told_by(box), before)

    def test_no_sheet_ahead_of_wrong_number(self):
        box = self.box()
        before = told_by(box)
        for number in [0, -1, MOST + 1] + anything_but_numbers():
            for lines in ([((1,), number)], FIRST + [((1,), number)], [((1,), number)] + FIRST):
                with self.assertRaises(NoSheet):
                    box.put_right(0, lines)
        self.assertEqual(told_by(box), before)

    def test_wrong_number(self):
        box = self.box()
        before = told_by(box)
        for lines, got in (([], 0), (FIRST[:2], 8), (FIRST + [((1,), 1)], 11), ([((), MOST), ((), MOST)], 2 * MOST)):
            with self.assertRaises(WrongNumber) as caught:
                box.put_right(0, lines)
            self.assertEqual((caught.exception.wanted, caught.exception.got), (10, got))
        self.assertEqual(told_by(box), before)
        self.assertEqual(take(box, []), (2, 0))

    def test_lines_handed_in_go_on_by_themselves(self):
        """[0.2]"""
        box = self.box()
        lines = [((1,), 4)]
        box.put_right(1, lines)
        self.assertEqual(lines, [((1,), 4)])
        lines.append(((1,), 1))
        self.assertEqual(box.lines_at(1), [((1,), 4)])
