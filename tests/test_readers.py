import random
import unittest

from tests.draws import any_slip, is_told_anew
from tests.things import no_wholes
from tests.truths import LAND, WORDS, any_deed, any_telling
from wholepoll.deeds import is_deed
from wholepoll.errors import NoText
from wholepoll.notation import show_deed, show_deeds, show_envelope, show_line, show_slip, show_telling
from wholepoll.readers import read_deed, read_deeds, read_envelope, read_line, read_slip, read_telling

NO_TEXTS = no_wholes() + [0, 1, 10 ** 60, [], ["red"], (), ("red",), [["red"]]]
SIGNS = " -:=>0123456789abcdegmrv\n\t%~"


def spoilt_texts(text):
    """Texts with signs left out, put in, doubled, exchanged; and blanks at either end."""
    for at in range(len(text) + 1):
        for sign in SIGNS:
            yield text[:at] + sign + text[at:]
            if at < len(text):
                yield text[:at] + sign + text[at + 1:]
        if at < len(text):
            yield text[:at] + text[at + 1:]
            yield text[:at] + text[at] + text[at:]
            yield text[:at]
            yield text[at:]
        if 0 < at < len(text):
            yield text[:at - 1] + text[at] + text[at - 1] + text[at + 1:]
    yield from (text + text, text + " " + text, text + "\n", text.upper())


class Reads(unittest.TestCase):
    """[12.3]"""

    def refused(self, ask, *some):
        for text in some:
            with self.assertRaises(NoText, msg=repr(text)):
                ask(text)

    def just_its_text(self, read, show, text):
        """Whatever is read of a text spoilt has just that text."""
        met = {True: 0, False: 0}
        for other in spoilt_texts(text):
            try:
                thing = read(other)
            except NoText:
                met[False] += 1
            else:
                self.assertEqual(show(thing), other)
                met[True] += 1
        return met

    def test_slips(self):
        def read(text):
            return read_slip(text, WORDS)

        for slip, text in (((), "-"), ((1,), "red"), ((3, 4), "red=green>blue"), ((4, 2, 1), "blue>green>red"), ((7,), "red=green=blue")):
            self.assertEqual(read(text), slip)
            self.just_its_text(read, lambda slip: show_slip(slip, WORDS), text)
        self.refused(
            read, "", " ", "red ", " red", "red>", ">red", "red=", "=red", "red>>blue", "red==blue", "--", "-red", "red>-", "red=-",
            "red=red", "red>red", "red=blue>red", "green=red", "blue=green", "blue=red=green", "yellow", "Red", "RED", "re", "redd", "red,blue",
            "red blue", "red\n", "1", "red:1",
        )
        self.assertEqual(read_slip("zoe=ann", ["zoe", "ann"]), (3,))
        self.refused(lambda text: read_slip(text, ["zoe", "ann"]), "ann=zoe")
        self.assertEqual(read_slip("red>blue", tuple(WORDS)), (1, 4))

    def test_lines(self):
        def read(text):
            return read_line(text, WORDS)

        for line, text in ((((1,), 1), "1:red"), (((), 10 ** 9), "1000000000:-"), (((3, 4), 20), "20:red=green>blue")):
            self.assertEqual(read(text), line)
            self.just_its_text(read, lambda line: show_line(line, WORDS), text)
        self.refused(
            read, "0:red", "1000000001:red", "9999999999:red", "10000000000:red", "01:red", "00:red", "-1:red", "+1:red", "1:", ":red", "1red",
            "1 :red", "1: red", "1:red:red", "1:1:red", "", ":", "red", "1", "red:1", "1_0:red", "1e3:red", "9" * 5000 + ":red", "1.0:red",
        )

    def test_tellings(self):
        for telling, text in (
            ((3, 5, "ann", "comes", 0), "roll 3 5 ann comes 0"), ((3, 5, "ann", "goes", None), "roll 3 5 ann goes"),
            ((10 ** 9, 0, "x", "barred", None), "roll 1000000000 0 x barred"), ((0, 10 ** 9, "x", "cleared", None), "roll 0 1000000000 x cleared"),
            ((3, 5, "ann", "comes", 5), "roll 3 5 ann comes 5"), ((3, 5, "goes", "comes", 5), "roll 3 5 goes comes 5"),
        ):
            self.assertEqual(read_telling(text), telling)
            self.just_its_text(read_telling, show_telling, text)
        self.refused(
            read_telling, "", "roll", "roll 3 5 ann", "roll 3 5 ann comes", "roll 3 5 ann comes 6", "roll 3 5 ann goes 0", "roll 3 5 ann barred 1",
            "roll 3 5 ann comes -1", "roll 3 5 ann comes None", "roll 3 5 ann left", "roll 3 5 Ann goes", "roll 3 5 annannann goes",
            "roll 03 5 ann goes", "roll 3 05 ann goes", "roll 3 5 ann comes 00", "roll 1000000001 5 ann goes", "roll 3 10000000000 ann goes",
            "roll 3 5 ann  goes", " roll 3 5 ann goes", "roll 3 5 ann goes ", "mail 3 5 ann goes", "Roll 3 5 ann goes", "3 5 ann goes",
            "1 roll 3 5 ann goes", "roll 3 5 ann goes\n", "roll 3 5 ann comes 0 0", "roll 3 5  goes",
        )

    def test_envelopes(self):
        def read(text):
            return read_envelope(text, WORDS)

        for envelope, text in (((4, "bob", 5, 6, (2, 1)), "mail 4 bob 5 6 green>red"), ((0, "x", 0, 10 ** 9, ()), "mail 0 x 0 1000000000 -")):
            self.assertEqual(read(text), envelope)
            self.just_its_text(read, lambda envelope: show_envelope(envelope, WORDS), text)
        self.refused(
            read, "", "mail", "mail 4 bob 5 6", "mail 4 bob 6 6 red", "mail 4 bob 5 6 red red", "mail 4 bob 5 6 yellow", "mail 4 5 6 red", "mail 4 Bob 5 6 red",
            "mail 04 bob 5 6 red", "mail 4 bob 05 6 red", "mail 4 bob 5 06 red", "mail 1000000001 bob 5 6 red", "mail 4 bob 5 1000000001 red",
            "mail 4 bob 5 6 red ", " mail 4 bob 5 6 red", "mail  4 bob 5 6 red", "roll 4 bob 5 6 red", "mail 4 bob 5 6 1:red", "mail 4 bob 5 6 ",
        )

    def test_each_deed(self):
        def read(text):
            return read_deed(text, WORDS, 2)

        for deed in (
            ("roll", 17, (3, 5, "ann", "comes", 1)), ("roll", 17, (3, 5, "ann", "goes", None)), ("mail", 0, (4, "bob", 5, 6, (2, 1))),
            ("strike", 6, 31), ("void", 10 ** 9, 10 ** 9), ("bundle", 7, 0, ()), ("bundle", 7, 1, (((1,), 3), ((), 10 ** 9), ((1,), 1))),
            ("recount", 8, 7, (((6, 1), 6),)), ("recount", 8, 0, ()),
        ):
            text = show_deed(deed, WORDS)
            self.assertEqual(read(text), deed)
            self.assertIs(is_deed(read(text), 2, 3), True)
            met = self.just_its_text(read, lambda deed: show_deed(deed, WORDS), text)
            self.assertGreater(met[True], 5)
            self.assertGreater(met[False], 100)
        self.refused(
            read, "", " ", "7", "7 ", "7 void", "void 7", "7 void ", "7 void 1 2", "7 strike", "7 strike 1 1:red", "07 void 1", "7 void 01", "7 void 1000000001",
            "1000000001 void 7", "10000000000 void 7", "7 void 10000000000", "7  void 1", "7 void  1", " 7 void 1", "7 void 1 ", "7 Void 1", "7 undo 1",
            "7 bundle", "7 bundle 0 ", "7 bundle 0 1:red ", "7 bundle 0  1:red", "7 bundle 0 0:red", "7 bundle 0 1000000001:red", "7 bundle 0 red",
            "7 bundle 00", "7 bundle 0 1:yellow", "7 recount", "7 recount 1 1", "7 roll", "7 roll 3 5 ann comes", "7 mail 4 bob 6 6 red",
            "7 void 1\n", "7 void 1\n8 void 1", "-7 void 1", "7 void -1", "7 roll 7 roll 3 5 ann goes", "7 bundle 1 1:red\n",
        )

    def test_areas_too_few_for_a_deed(self):
        for areas in range(1, 7):
            for area in range(8):
                for text in (f"7 bundle {area} 1:red", f"7 roll 3 5 ann comes {area}"):
                    if area < areas:
                        self.assertIs(is_deed(read_deed(text, WORDS, areas), areas, 3), True)
                    else:
                        self.refused(lambda some: read_deed(some, WORDS, areas), text)
                text = f"7 mail 4 bob {area} 6 red"
                if area <= 5:
                    self.assertEqual(read_deed(text, WORDS, areas)[2][2], area)
                else:
                    self.refused(lambda some: read_deed(some, WORDS, areas), text)

    def test_several_deeds(self):
        def read(text):
            return read_deeds(text, WORDS, 2)

        self.assertEqual(read(""), [])
        self.assertEqual(read("1 void 2\n"), [("void", 1, 2)])
        self.assertEqual(read("1 void 2\n1 void 2\n0 strike 0\n"), [("void", 1, 2), ("void", 1, 2), ("strike", 0, 0)])
        self.refused(read, "\n", "1 void 2", "1 void 2\n\n", "\n1 void 2\n", "1 void 2\n3 void 4", "1 void 2 \n", "1 void 2\n 3 void 4\n",
                     "1 void 2\n-\n", " ", "1 void 2\n ", "1 void 2\r\n", "1 bundle 2\n")
        self.just_its_text(read, lambda deeds: show_deeds(deeds, WORDS), "1 void 2\n3 bundle 0 1:red\n")

    def test_no_texts(self):
        for thing in NO_TEXTS:
            self.refused(lambda text: read_slip(text, WORDS), thing)
            self.refused(lambda text: read_line(text, WORDS), thing)
            self.refused(read_telling, thing)
            self.refused(lambda text: read_envelope(text, WORDS), thing)
            self.refused(lambda text: read_deed(text, WORDS, 2), thing)
            self.refused(lambda text: read_deeds(text, WORDS, 2), thing)

    def test_written_and_read_again(self):
        draw = random.Random(123)
        words = ["a", "zzzzzzzz", "roll", "mail", "comes", "e", "f", "g", "h", "i", "j", "k"]
        for _ in range(150):
            hands = draw.choice((1, 2, 3, 12))
            some = words[:hands]
            slip, number = any_slip(draw, hands), draw.choice((1, 7, 10 ** 9))
            self.assertEqual(read_slip(show_slip(slip, some), some), slip)
            self.assertEqual(read_line(show_line((slip, number), some), some), (slip, number))
            telling = any_telling(draw, 6)
            self.assertEqual(read_telling(show_telling(telling)), telling)
            envelope = (draw.choice((0, 3, 10 ** 9)), draw.choice(("ann", "mail")), draw.randrange(6), draw.choice((0, 10 ** 9)), slip)
            self.assertEqual(read_envelope(show_envelope(envelope, some), some), envelope)
            deeds = [any_deed(draw, LAND) for _ in range(draw.randint(0, 5))]
            self.assertEqual([read_deed(show_deed(deed, WORDS), WORDS, 2) for deed in deeds], deeds)
            self.assertEqual(read_deeds(show_deeds(deeds, WORDS), WORDS, 2), deeds)

    def test_what_is_told_is_the_askers_own(self):
        """[0.2]"""
        words = list(WORDS)
        self.assertTrue(is_told_anew(lambda: read_deeds("1 void 2\n", words, 2)))
        self.assertEqual(words, WORDS)
