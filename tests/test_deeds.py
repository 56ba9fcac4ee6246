import random
import unittest

from tests.draws import is_told_anew
from tests.things import anything_but_numbers, anything_but_tuples, no_words
from tests.truths import LAND, ballots_of, plain_bundles, plain_standing, some_deeds
from wholepoll.deeds import bundles_by, clashing_deeds, is_deed, number_of, standing_deeds

MOST = 10 ** 9
TELLING = (3, 5, "ann", "comes", 1)
ENVELOPE = (4, "bob", 5, 6, (2, 1))
LINES = (((1,), 2), ((1, 2), 3), ((1,), 2), ((), MOST))
EACH = [
    ("roll", 1, TELLING), ("mail", 2, ENVELOPE), ("strike", 3, 4), ("bundle", 4, 1, LINES), ("recount", 5, 4, LINES), ("void", 6, 5),
]


class IsDeed(unittest.TestCase):
    """[11.1]"""

    def test_each_word(self):
        for deed in EACH:
            self.assertIs(is_deed(deed, 2, 2), True)
            self.assertEqual(number_of(deed), deed[1])
        for word in ("", "rolls", "Roll", "no", "mail "):
            for deed in EACH:
                self.assertIs(is_deed((word,) + deed[1:], 2, 2), False)
        for deed in EACH:
            for other in EACH:
                if len(deed) != len(other) or {deed[0], other[0]} not in ({"roll"}, {"mail"}, {"strike", "void"}, {"bundle", "recount"}):
                    self.assertIs(is_deed((other[0],) + deed[1:], 2, 2), deed == other)

    def test_numbers(self):
        for deed in EACH:
            for number, due in ((0, True), (MOST, True), (MOST + 1, False), (-1, False), (True, False), (False, False), (10 ** 60, False)):
                self.assertIs(is_deed((deed[0], number) + deed[2:], 2, 2), due)
            for number in anything_but_numbers():
                self.assertIs(is_deed((deed[0], number) + deed[2:], 2, 2), False)
        for word in ("strike", "void"):
            for number, due in ((0, True), (MOST, True), (MOST + 1, False), (-1, False), (True, False)):
                self.assertIs(is_deed((word, 1, number), 2, 2), due)
                self.assertIs(is_deed(("recount", 1, number, LINES), 2, 2), due)
            for number in anything_but_numbers():
                self.assertIs(is_deed((word, 1, number), 2, 2), False)
                self.assertIs(is_deed(("recount", 1, number, LINES), 2, 2), False)
                self.assertIs(is_deed(("bundle", 1, number, LINES), 2, 2), False)

    def test_a_telling_with_an_area_that_the_land_has_not(self):
        for areas in range(1, 7):
            for area in range(-1, 8):
                deed = ("roll", 1, (3, 5, "ann", "comes", area))
                self.assertIs(is_deed(deed, areas, 2), 0 <= area < areas)
            self.assertIs(is_deed(("roll", 1, (3, 5, "ann", "goes", None)), areas, 2), True)
            self.assertIs(is_deed(("roll", 1, (3, 5, "ann", "barred", None)), areas, 2), True)
            self.assertIs(is_deed(("roll", 1, (3, 5, "ann", "comes", None)), areas, 2), False)

    def test_envelopes_in_any_area(self):
        for areas in (1, 2, 6):
            for area in range(-1, 8):
                self.assertIs(is_deed(("mail", 1, (4, "bob", area, 6, ())), areas, 2), 0 <= area <= 5)
        self.assertIs(is_deed(("mail", 1, (4, "bob", 0, 6, (4,))), 1, 2), False)
        self.assertIs(is_deed(("mail", 1, (4, "bob", 0, 6, (4,))), 1, 3), True)

    def test_bundles_in_the_areas_of_the_land(self):
        for areas in range(1, 7):
            for area in range(-1, 8):
                self.assertIs(is_deed(("bundle", 1, area, ()), areas, 2), 0 <= area < areas)

    def test_lines(self):
        for word in ("bundle", "recount"):
            for number, due in ((0, False), (1, True), (MOST, True), (MOST + 1, False), (-1, False), (True, False)):
                self.assertIs(is_deed((word, 1, 0, (((1,), number),)), 2, 2), due)
            for number in anything_but_numbers():
                self.assertIs(is_deed((word, 1, 0, (((1,), 3), ((1,), number))), 2, 2), False)
            for lines, due in (
                ((), True), ([], False), ([((1,), 1)], False), (([(1,), 1],), False), (((1, 1),), False), ((((4,), 1),), False),
                ((((1,), 1, 1),), False), ((((1,),),), False), (((1,), 1), False), ((((0,), 1),), False), (None, False),
            ):
                self.assertIs(is_deed((word, 1, 0, lines), 2, 2), due)

    def test_lists_for_tuples_and_things_of_any_kind(self):
        for deed in EACH:
            self.assertIs(is_deed(list(deed), 2, 2), False)
            self.assertIs(is_deed(deed + (1,), 2, 2), False)
            self.assertIs(is_deed(deed[:-1], 2, 2), False)
            self.assertIs(is_deed(deed[:1], 2, 2), False)
            for thing in no_words() + [""]:
                self.assertIs(is_deed((thing,) + deed[1:], 2, 2), False)
            if deed[0] in ("roll", "mail", "bundle", "recount"):
                self.assertIs(is_deed(deed[:-1] + (list(deed[-1]),), 2, 2), False)
                for thing in anything_but_tuples():
                    self.assertIs(is_deed(deed[:-1] + (thing,), 2, 2), False)
        for thing in anything_but_tuples() + [(), (None,) * 3, (1, 2, 3), ("roll",), ("roll", 1)]:
            self.assertIs(is_deed(thing, 2, 2), False)


class Standing(unittest.TestCase):
    """[11.1]"""

    def test_each_once_by_number(self):
        deeds = [EACH[2], EACH[0], EACH[2], EACH[1], EACH[1]]
        self.assertEqual(standing_deeds(deeds), [EACH[0], EACH[1], EACH[2]])
        self.assertEqual(clashing_deeds(deeds), [])
        self.assertEqual((standing_deeds([]), clashing_deeds([])), ([], []))

    def test_unlike_ones(self):
        deeds = [("strike", 7, 1), ("strike", 7, 2), ("strike", 7, 1), ("strike", 5, 3), ("void", 7, 1), ("roll", 2, TELLING)]
        self.assertEqual(standing_deeds(deeds), [("roll", 2, TELLING), ("strike", 5, 3)])
        self.assertEqual(clashing_deeds(deeds), [7])
        self.assertEqual(clashing_deeds(deeds + [("void", 5, 0), ("void", 2, 0)]), [2, 5, 7])

    def test_void(self):
        strike = ("strike", 1, 9)
        for deeds, due in (
            ([strike, ("void", 2, 1)], [("void", 2, 1)]),
            # A void of a void, or of itself, voids nothing.
            ([strike, ("void", 2, 1), ("void", 3, 2)], [("void", 2, 1), ("void", 3, 2)]),
            ([strike, ("void", 3, 3)], [strike, ("void", 3, 3)]),
            # One of a deed that is not there.
            ([strike, ("void", 3, 8)], [strike, ("void", 3, 8)]),
            # A void that does not stand.
            ([strike, ("void", 3, 1), ("void", 3, 2)], [strike]),
            # Of a number of which unlike ones came.
            ([strike, ("strike", 1, 8), ("void", 3, 1)], [("void", 3, 1)]),
            ([strike, ("void", 1, 1), ("void", 3, 1)], [("void", 3, 1)]),
            ([strike, strike, ("void", 2, 1), ("void", 2, 1)], [("void", 2, 1)]),
        ):
            self.assertEqual(standing_deeds(deeds), due)
            self.assertEqual(standing_deeds(deeds[::-1]), due)

    def test_drawn(self):
        draw = random.Random(111)
        for _ in range(150):
            deeds = some_deeds(draw, LAND, draw.choice((4, 12, 20)), draw.choice((6, 20)))
            due = plain_standing(deeds)
            self.assertEqual(standing_deeds(deeds), due)
            numbers = sorted({deed[1] for deed in deeds if any(deed[1] == other[1] and deed != other for other in deeds)})
            self.assertEqual(clashing_deeds(deeds), numbers)
            draw.shuffle(deeds)
            self.assertEqual(standing_deeds(deeds + deeds[:3]), due)

    def test_what_is_told_is_the_askers_own(self):
        """[0.2]"""
        deeds = EACH + [("strike", 3, 5)]
        kept = list(deeds)
        for ask in (standing_deeds, clashing_deeds, lambda some: bundles_by(some, 2)):
            self.assertTrue(is_told_anew(lambda: ask(deeds)))
        self.assertEqual(deeds, kept)


class Bundles(unittest.TestCase):
    """[11.2]"""

    def test_ordinary(self):
        deeds = [("bundle", 9, 1, LINES), ("bundle", 4, 1, ()), ("bundle", 5, 0, LINES[:2])]
        due = [{5: list(LINES[:2])}, {4: [], 9: list(LINES)}]
        self.assertEqual(bundles_by(deeds, 2), due)
        self.assertEqual([list(box) for box in bundles_by(deeds, 2)], [[5], [4, 9]])
        self.assertEqual(bundles_by(deeds, 3), due + [{}])
        self.assertEqual(bundles_by([], 2), [{}, {}])

    def test_recounts(self):
        bundle = ("bundle", 5, 0, (((1,), 2), ((2,), 3)))
        fits, fits_too = ("recount", 7, 5, (((), 5),)), ("recount", 8, 5, (((2,), 1), ((2,), 4)))
        more, fewer = ("recount", 9, 5, (((), 6),)), ("recount", 10, 5, (((), 4),))
        for deeds, due in (
            ([bundle], bundle[3]), ([bundle, fits], fits[3]), ([fits_too, bundle, fits], fits_too[3]), ([bundle, more], bundle[3]),
            ([bundle, fits, more, fewer], fits[3]), ([bundle, ("recount", 7, 5, ())], bundle[3]),
            ([bundle, fits, fits_too, ("void", 1, 8)], fits[3]), ([bundle, fits, ("void", 1, 7)], bundle[3]),
            ([bundle, fits, fits_too, ("recount", 8, 5, (((), 5),))], fits[3]), ([bundle, ("recount", 7, 6, (((), 5),))], bundle[3]),
        ):
            self.assertEqual(bundles_by(deeds, 1), [{5: list(due)}])
            self.assertEqual(bundles_by(deeds[::-1], 1), [{5: list(due)}])

    def test_recounts_of_no_bundle_sleep(self):
        fits = ("recount", 7, 5, (((), 5),))
        self.assertEqual(bundles_by([fits], 2), [{}, {}])
        self.assertEqual(bundles_by([fits, ("strike", 5, 5)], 2), [{}, {}])
        self.assertEqual(bundles_by([fits, ("recount", 5, 7, (((), 5),))], 2), [{}, {}])
        # As soon as it fits it counts.
        bundle = ("bundle", 5, 1, (((1,), 5),))
        self.assertEqual(bundles_by([fits, bundle], 2), [{}, {5: [((), 5)]}])

    def test_recounts_of_a_bundle_that_is_void(self):
        bundle, fits = ("bundle", 5, 0, (((1,), 5),)), ("recount", 7, 5, (((), 5),))
        self.assertEqual(bundles_by([bundle, fits, ("void", 1, 5)], 1), [{}])
        self.assertEqual(bundles_by([bundle, fits, ("void", 1, 5), ("void", 1, 6)], 1), [{5: [((), 5)]}])
        self.assertEqual(bundles_by([bundle, ("bundle", 5, 0, ()), fits], 1), [{}])

    def test_empty_bundles(self):
        bundle, empty = ("bundle", 5, 0, ()), ("recount", 7, 5, ())
        self.assertEqual(bundles_by([bundle, empty], 1), [{5: []}])
        self.assertEqual(bundles_by([bundle, ("recount", 7, 5, (((), 1),))], 1), [{5: []}])

    def test_drawn(self):
        draw = random.Random(112)
        recounted = 0
        for _ in range(150):
            deeds = some_deeds(draw, LAND, draw.choice((6, 12)))
            due = plain_bundles(deeds, 2)
            told = bundles_by(deeds, 2)
            self.assertEqual(told, due)
            self.assertTrue(all(list(box) == sorted(box) for box in told))
            draw.shuffle(deeds)
            self.assertEqual(bundles_by(deeds, 2), due)
            own = {deed[1]: deed[3] for deed in deeds if deed[0] == "bundle"}
            for number, lines in [one for box in due for one in box.items()]:
                recounted += tuple(lines) != own[number]
                self.assertEqual(ballots_of(lines), ballots_of(own[number]))
        self.assertGreater(recounted, 20)
