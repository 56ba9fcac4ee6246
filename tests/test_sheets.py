import itertools
import unittest

from tests.things import anything_but_lists, anything_but_numbers, anything_but_tuples
from wholepoll.errors import NoChange, NoSheet
from wholepoll.sheets import apart, ballots_in, changed, is_sheet, is_slip, joined, number_of, sheet_of

MOST = 10 ** 9
LINES = [((2, 1), 4), ((), 3), ((1,), 5), ((2, 1), 1), ((1, 2), 2), ((), 1)]
SHEET = [((), 4), ((1,), 5), ((1, 2), 2), ((2, 1), 5)]


class SheetOf(unittest.TestCase):
    """[2.6]"""

    def test_lines_in_any_order(self):
        for lines in itertools.permutations(LINES):
            self.assertEqual(sheet_of(list(lines)), SHEET)

    def test_sums_above_the_bound_of_a_line(self):
        self.assertEqual(sheet_of([((1,), MOST), ((1,), MOST)]), [((1,), 2 * MOST)])

    def test_no_lines(self):
        self.assertEqual(sheet_of([]), [])

    def test_no_sheet(self):
        for number in [0, -1, MOST + 1, 10 ** 60] + anything_but_numbers():
            for lines in ([((1,), number)], [((1,), 2), ((1,), number)], [((2,), number), ((1,), 2)]):
                with self.assertRaises(NoSheet):
                    sheet_of(lines)

    def test_lines_stay_and_the_sheet_is_a_new_one(self):
        """[0.2]"""
        lines = list(SHEET)
        told = sheet_of(lines)
        told.append(((4,), 1))
        self.assertEqual(lines, SHEET)
        self.assertEqual(sheet_of(lines), SHEET)


class Joined(unittest.TestCase):
    """[2.7]"""

    def test_joined(self):
        self.assertEqual(joined([]), [])
        self.assertEqual(joined([[], []]), [])
        self.assertEqual(joined([SHEET]), SHEET)
        self.assertEqual(joined([[((1,), 2)], [((), 1), ((1,), 3)]]), [((), 1), ((1,), 5)])

    def test_however_lines_are_parted(self):
        for cut in range(len(LINES) + 1):
            parts = [sheet_of(LINES[cut:]), [], sheet_of(LINES[:cut])]
            self.assertEqual(joined(parts), SHEET)
            self.assertEqual(joined([joined(parts[:2]), parts[2]]), SHEET)

    def test_more_than_the_bound_of_a_line(self):
        much = [((), 7 * MOST), ((1,), 2)]
        self.assertEqual(joined([much, much]), [((), 14 * MOST), ((1,), 4)])
        self.assertEqual(ballots_in(much), 7 * MOST + 2)
        self.assertEqual(number_of(much, ()), 7 * MOST)

    def test_ballots_in_and_number_of(self):
        self.assertEqual(ballots_in([]), 0)
        self.assertEqual(ballots_in(SHEET), 16)
        self.assertEqual([number_of(SHEET, slip) for slip in ((), (1,), (1, 2), (2, 1), (2,))], [4, 5, 2, 5, 0])
        self.assertEqual(number_of([], ()), 0)

    def test_sheets_stay_and_told_ones_are_new(self):
        """[0.2]"""
        one = list(SHEET)
        sheets = [one]
        told = joined(sheets)
        told.clear()
        self.assertEqual((sheets, one), ([SHEET], SHEET))


class Changed(unittest.TestCase):
    """[2.8] [0.6]"""

    def test_rows_in_any_order(self):
        rows = [((1,), (2, 1), 2), ((1,), (), 1), ((2, 1), (), 5), ((), (4,), 4)]
        due = [((), 6), ((1,), 2), ((1, 2), 2), ((2, 1), 2), ((4,), 4)]
        for change in itertools.permutations(rows):
            self.assertEqual(changed(SHEET, list(change)), due)

    def test_a_slip_without_ballots_has_no_line(self):
        self.assertEqual(changed([((1,), 2)], [((1,), (2,), 2)]), [((2,), 2)])
        self.assertEqual(changed([((1,), 2), ((2,), 1)], [((1,), (), 1), ((1,), (2,), 1)]), [((), 1), ((2,), 2)])

    def test_ballots_go_round(self):
        self.assertEqual(changed([((1,), 2), ((2,), 2)], [((1,), (2,), 2), ((2,), (1,), 2)]), [((1,), 2), ((2,), 2)])

    def test_no_rows(self):
        told = changed(SHEET, [])
        self.assertEqual(told, SHEET)
        self.assertIsNot(told, SHEET)
        self.assertEqual(changed([], []), [])

    def test_numbers_above_the_bound_of_a_line(self):
        self.assertEqual(changed([((), 9 * MOST)], [((), (1,), 8 * MOST)]), [((), MOST), ((1,), 8 * MOST)])

    def test_no_change_by_the_number(self):
        for number in [0, -1] + anything_but_numbers():
            for change in ([((1,), (2,), number)], [((1,), (2,), 1), ((), (1,), number)]):
                with self.assertRaises(NoChange):
                    changed(SHEET, change)

    def test_no_change_by_alike_slips(self):
        for slip in ((1,), (), (4, 2)):
            with self.assertRaises(NoChange):
                changed(SHEET, [(slip, slip, 1)])

    def test_no_change_by_too_many(self):
        for change in (
            [((1,), (2,), 6)],
            [((1,), (2,), 3), ((1,), (), 3)],
            [((4,), (2,), 1)],
            [((1,), (2,), 6), ((), (1,), 4)],
            [((), (1,), 4), ((1,), (2,), 6)],
            [((), (4,), 1), ((4,), (2,), 1)],
        ):
            with self.assertRaises(NoChange):
                changed(SHEET, change)
        with self.assertRaises(NoChange):
            changed([], [((), (1,), 1)])

    def test_what_is_handed_in_stays(self):
        """[0.2]"""
        sheet, change = list(SHEET), [((1,), (2,), 5)]
        changed(sheet, change)
        self.assertEqual((sheet, change), (SHEET, [((1,), (2,), 5)]))


class Apart(unittest.TestCase):
    """[2.9]"""

    def test_apart(self):
        self.assertEqual(apart(SHEET, SHEET), 0)
        self.assertEqual(apart([], []), 0)
        self.assertEqual(apart(SHEET, []), 16)
        self.assertEqual(apart([], SHEET), 0)
        one, other = [((), 4), ((1,), 1)], [((), 1), ((1,), 3), ((2,), 1)]
        self.assertEqual((apart(one, other), apart(other, one)), (3, 3))
        self.assertEqual((apart(one, other + [((4,), 9)]), apart(other + [((4,), 9)], one)), (3, 12))
        self.assertEqual(apart([((), 9 * MOST)], [((), 1)]), 9 * MOST - 1)

    def test_a_change_of_so_many_and_none_of_fewer(self):
        slips = [(), (1,), (2,)]
        sheets = []
        for many in itertools.product(range(4), repeat=3):
            if sum(many) == 3:
                sheets.append([(slip, number) for slip, number in zip(slips, many) if number > 0])
        rows = [(old, new, 1) for old in slips for new in slips if old != new]
        for one in sheets:
            fewest = {str(one): 0}
            for number in (1, 2, 3):
                for change in itertools.product(rows, repeat=number):
                    try:
                        fewest.setdefault(str(changed(one, list(change))), number)
                    except NoChange:
                        continue
            for other in sheets:
                self.assertEqual(apart(one, other), fewest[str(other)])


class IsSlip(unittest.TestCase):
    """[2.10] [0.3]"""

    def test_slips(self):
        for slip, hands in (((), 1), ((1,), 1), ((4, 9), 4), ((7,), 3), ((4095,), 12), ((2, 1), 2), ((2048, 1), 12)):
            self.assertIs(is_slip(slip, hands), True)

    def test_no_slips(self):
        for slip, hands in (
            ((0,), 3), ((1, 0), 3), ((8,), 3), ((4096,), 12), ((2,), 1), ((-1,), 3), ((1, 1), 3), ((1, 3), 3), ((2, 1, 2), 3),
            ((True,), 3), ((2, True), 3), ((False,), 3), ([1], 3), ([], 3), (("1",), 3), (((1,),), 3), ((1, None), 3),
        ):
            self.assertIs(is_slip(slip, hands), False, slip)
        for thing in anything_but_tuples():
            self.assertIs(is_slip(thing, 3), False)
            if not isinstance(thing, int) or isinstance(thing, bool):
                self.assertIs(is_slip((thing,), 3), False)
                self.assertIs(is_slip((2, thing), 3), False)


class IsSheet(unittest.TestCase):
    """[2.10] [0.3]"""

    def test_sheets(self):
        for sheet in ([], SHEET, [((), 1)], [((1,), 10 ** 60)], [((), 5 * MOST), ((4095,), 1)]):
            self.assertIs(is_sheet(sheet, 12), True)

    def test_no_sheets(self):
        for sheet in (
            (), tuple(SHEET), [[(1,), 2]], [((1,), 2, 3)], [((1,),)], [()], [([1], 2)], [(1, 2)],
            [((1,), 1), ((), 1)], [((1,), 1), ((1,), 1)], [((1,), 1), ((1,), 2)],
            [((1, 2), 1), ((1,), 1)], [((), 1), ((2,), 1), ((1,), 1)],
            [((1,), 0)], [((1,), -1)], [((1,), True)], [((1,), "1")], [((1,), None)], [((1,), [1])],
            [((0,), 1)], [((16,), 1)], [((1, 1), 1)], [((True,), 1)], [((1,), 1), None],
        ):
            self.assertIs(is_sheet(sheet, 4), False, sheet)

    def test_other_kinds(self):
        for thing in anything_but_lists():
            self.assertIs(is_sheet(thing, 3), False)
            self.assertIs(is_sheet([thing], 3), False)
        for thing in anything_but_tuples():
            self.assertIs(is_sheet([(thing, 1)], 3), False)
        for thing in anything_but_numbers():
            self.assertIs(is_sheet([((1,), thing)], 3), False)
