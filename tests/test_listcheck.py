import copy
import random
import unittest

from tests.draws import votes_sheet
from tests.test_lists import EXAMPLE, HUGE, drawn_way
from wholepoll.listcheck import ListsChecker
from wholepoll.lists import Lists

WAY = Lists(3, 4, None, (1, 6))


def spoilt_papers(paper):
    """Papers with one thing otherwise, made of the kinds of things that are told."""
    votes, least, rounds = paper
    for at in range(len(votes)):
        for more in (1, -1, HUGE):
            yield (votes[:at] + [votes[at] + more] + votes[at + 1:], least, rounds)
    for other in ([], votes[:-1], votes + [0], votes[::-1]):
        if other != votes:
            yield (other, least, rounds)
    for other in (least + 1, least - 1, -least, HUGE):
        yield (votes, other, rounds)
    for at, (marks, hand) in enumerate(rounds):
        for other in spoilt_rounds(marks, hand):
            yield (votes, least, rounds[:at] + [other] + rounds[at + 1:])
        yield (votes, least, rounds[:at] + rounds[at + 1:])
        yield (votes, least, rounds[:at] + [rounds[at]] + rounds[at:])
        for other in range(at):
            rows = list(rounds)
            rows[at], rows[other] = rows[other], rows[at]
            yield (votes, least, rows)
    for other in ([], rounds + rounds, rounds[:1]):
        if other != rounds:
            yield (votes, least, other)


def spoilt_rounds(marks, hand):
    for other in (hand + 1, hand - 1, hand - len(marks), HUGE):
        yield (marks, other)
    for at, mark in enumerate(marks):
        ahead, behind = marks[:at], marks[at + 1:]
        if mark is None:
            for other in ((0, 1), (1, 1), (HUGE, 1)):
                yield (ahead + [other] + behind, hand)
        else:
            top, bottom = mark
            for other in (
                None, (2 * top, 2 * bottom), (-top, -bottom), (top + 1, bottom), (top, bottom + 1), (top, 0), (top, -bottom),
                (bottom, -top), (HUGE, HUGE),
            ):
                yield (ahead + [other] + behind, hand)
        yield (ahead + behind, hand)
        yield (ahead + [mark, mark] + behind, hand)
    yield ([], hand)


class Right(unittest.TestCase):
    """[6.29]"""

    def test_just_its_own_paper(self):
        draw = random.Random(629)
        for _ in range(40):
            way = drawn_way(draw)
            sheet = votes_sheet(draw, way.hands)
            paper, checker = way.counted(sheet), ListsChecker(way)
            self.assertIs(checker.way, way)
            self.assertIs(checker.right(sheet, paper), True)
            self.assertIs(checker.right(sheet, copy.deepcopy(paper)), True)
            self.assertIs(checker.passes(sheet, paper, way.outcome(sheet)), True)
            for other in spoilt_papers(paper):
                if other != paper:
                    self.assertIs(checker.right(sheet, other), False, other)
                    self.assertIs(checker.passes(sheet, other, way.outcome(sheet)), False)

    def test_the_example(self):
        checker = ListsChecker(WAY)
        paper = WAY.counted(EXAMPLE)
        self.assertEqual(paper[:2], ([6, 3, 1, 2], 2))
        self.assertIs(checker.right(EXAMPLE, paper), True)
        spoilt = list(spoilt_papers(paper))
        self.assertGreater(len(spoilt), 80)
        for other in spoilt:
            self.assertIs(checker.right(EXAMPLE, other), other == paper)

    def test_papers_of_other_sheets_and_ways(self):
        checker = ListsChecker(WAY)
        paper = WAY.counted(EXAMPLE)
        other = [((1,), 6), ((2,), 3), ((4,), 1), ((6,), 1), ((7,), 1)]
        # Another sheet with the same votes has the same paper.
        self.assertIs(checker.right(other, paper), True)
        for sheet in ([], EXAMPLE[1:], EXAMPLE + [((4, 2), 1)]):
            self.assertIs(checker.right(sheet, paper), False)
            self.assertIs(checker.right(sheet, WAY.counted(sheet)), True)
            self.assertIs(checker.right(EXAMPLE, WAY.counted(sheet)), False)
        for way in (Lists(3, 5, None, (1, 6)), Lists(3, 4, None, (1, 12)), Lists(3, 4, [1, 0, 2], (1, 6)),
                    Lists(3, 4, None, (1, 6), 2), Lists(4, 4, None, (1, 6))):
            self.assertIs(checker.right(EXAMPLE, way.counted(EXAMPLE)), False)

    def test_nobody_takes_part(self):
        way = Lists(2, 2)
        checker = ListsChecker(way)
        self.assertIs(checker.right([], ([0, 0, 0], 1, [])), True)
        self.assertIs(checker.passes([], ([0, 0, 0], 1, []), [0, 0]), True)
        self.assertIs(checker.right([], ([0, 0, 0], 1, [([None, None], 0)])), False)
        self.assertIs(checker.right([], ([0, 0, 0], 0, [])), False)

    def test_outcomes_not_shown(self):
        checker = ListsChecker(WAY)
        paper = WAY.counted(EXAMPLE)
        for outcome in ([3, 1, 0], [4, 0, 0], [2, 2, 0], [], [3, 1], [3, 1, 0, 0], [3, 1, HUGE], [-3, -1, 0]):
            self.assertIs(checker.passes(EXAMPLE, paper, outcome), outcome == WAY.outcome(EXAMPLE))

    def test_what_is_handed_in_stays(self):
        """[0.2]"""
        paper = WAY.counted(EXAMPLE)
        ListsChecker(WAY).passes(EXAMPLE, paper, [3, 1, 0])
        self.assertEqual(paper, WAY.counted(EXAMPLE))
