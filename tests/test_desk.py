import random
import unittest

from tests.draws import spoiled
from tests.test_polls import DEEDS, poll_of
from tests.test_readers import spoilt_texts
from tests.things import anything_but_lists, anything_but_tuples, no_wholes, no_words
from tests.truths import LAND, RULES, VOTERS, WORDS, any_deed, plain_facts, plain_reached, some_deeds
from wholepoll.desk import Desk
from wholepoll.errors import NoDeed, NoEnvelope, NoPoll, NoRow, Nothing
from wholepoll.landmargin import LandMargin
from wholepoll.lands import Land
from wholepoll.lists import Lists
from wholepoll.notation import show_deed, show_house, show_outcome
from wholepoll.reaches import idle

ROWS = ["back", "again", "house", "outcome", "idle", "low", "deeds", "verdict 30", "may ann", "put 20 void 1", "out 1 roll 1 0 ann comes 0", "reach 20 void 1"]


def desk_of(deeds, land=LAND):
    desk = Desk(land, RULES, WORDS)
    for deed in deeds:
        desk.say("put " + show_deed(deed, WORDS))
    return desk


def all_told(desk):
    """What a desk tells, but for its log."""
    rows = ["house", "outcome", "idle", "low", "deeds"] + ["may " + voter for voter in VOTERS + ("nobody",)]
    rows += [f"verdict {number}" for number in sorted(desk.poll().verdicts())]
    return [desk.say(row) for row in rows]


def plain_reach(told):
    """[12.4]"""
    *lists, evened = told
    return " ".join([",".join(str(thing) for thing in some) or "-" for some in lists] + ["yes" if evened else "no"])


class Made(unittest.TestCase):
    """[12.4]"""

    def test_refused_as_a_poll(self):
        for land in no_wholes() + [0, "", [], (LAND,), Lists(3, 1)]:
            with self.assertRaises(NoPoll):
                Desk(land, RULES, WORDS)
        for rules in anything_but_tuples() + [(9, 2, 7, 6), (9, 2, 1), (True, 2, 1, 7)]:
            with self.assertRaises(NoPoll):
                Desk(LAND, rules, WORDS)

    def test_words(self):
        for words in (WORDS, tuple(WORDS), ["a", "b", "zzzzzzzz"], ["nobody", "put", "none"]):
            self.assertEqual(Desk(LAND, RULES, words).say("deeds"), "0")
        for words in anything_but_lists() + [
            [], WORDS[:2], WORDS + ["more"], WORDS + ["red"], ["red", "green", "red"], ["red", "green", "Blue"], ["red", "green", ""], ["red", "green", "bluebluebl"],
            ["red", "green", "b1"], ["red", "green", "-"], ("red", "green"), ("red", "red", "blue"), {"red": 0, "green": 1, "blue": 2}, "abc",
            ["red", "green", ["blue"]],
        ]:
            with self.assertRaises(NoPoll):
                Desk(LAND, RULES, words)
        for thing in no_words():
            with self.assertRaises(NoPoll):
                Desk(LAND, RULES, ["red", "green", thing])

    def test_words_that_are_changed_afterwards(self):
        words = list(WORDS)
        desk = Desk(LAND, RULES, words)
        words.reverse()
        desk.say("put 1 bundle 0 3:red")
        self.assertEqual((desk.say("house"), words), ("red:5", WORDS[::-1]))


class Rows(unittest.TestCase):
    """[12.4]"""

    def test_a_row_of_each_kind(self):
        desk = Desk(LAND, RULES, WORDS)
        for row, due in (
            ("house", "red:1"), ("outcome", "nobody\nred:1\nnobody"), ("idle", "0"), ("deeds", "0"), ("low", "none"), ("may ann", "none"),
            ("put 1 roll 1 0 ann comes 0", "1"), ("put 2 mail 30 ann 0 5 red", "2"), ("verdict 30", "counts"), ("may ann", "0"),
            ("put 3 bundle 1 4:blue>red 2:-", "3"), ("house", "red:2 blue:3"), ("outcome", "red:2\nblue:1\nblue:2"), ("deeds", "3"),
            ("low", "1"), ("reach 4 strike 30", "- 30 - 0 0 no"), ("put 4 strike 30", "4"), ("verdict 30", "struck"),
            ("house", "blue:3"), ("back", "3"), ("verdict 30", "counts"), ("again", "4"), ("verdict 30", "struck"), ("put 4 strike 30", "5"),
            ("deeds", "4"), ("idle", "0"), ("out 4 strike 30", "6"), ("deeds", "3"), ("put 9 void 8", "7"), ("idle", "1"), ("deeds", "4"),
            ("reach 9 void 8", "- - - - - no"), ("reach 1 roll 1 0 ann comes 0", "ann 30 - 0 0 no"),
            ("reach 3 bundle 1 4:blue>red 2:-", "- - 3 1 1 yes"),
        ):
            self.assertEqual(desk.say(row), due, row)

    def test_reach_with_several_things(self):
        desk = Desk(LAND, RULES, WORDS)
        for row in ("put 1 mail 40 ann 0 5 red", "put 2 mail 35 ann 0 5 blue", "put 3 mail 33 ann 1 5 -"):
            desk.say(row)
        self.assertEqual(desk.say("reach 9 roll 1 0 ann comes 0"), "ann 33,35,40 - 0 0 yes")
        desk.say("put 9 roll 1 0 ann comes 0")
        self.assertEqual(desk.say("verdict 35"), "counts")
        self.assertEqual(desk.say("reach 10 strike 35"), "- 35,40 - 0 0 yes")

    def test_reach_drawn(self):
        draw = random.Random(124)
        for _ in range(60):
            deeds = some_deeds(draw, LAND, 14)
            desk = desk_of(deeds)
            for deed in (any_deed(draw, LAND), draw.choice(deeds), any_deed(draw, LAND, 40)):
                told = desk.say("reach " + show_deed(deed, WORDS))
                self.assertEqual(told, plain_reach(plain_reached(LAND, RULES, deeds, deed)))
            self.assertEqual(desk.poll(), poll_of(deeds))
            self.assertEqual(desk.say("back"), str(len(deeds) - 1))

    def test_low(self):
        draw = random.Random(12)
        met = set()
        for land in (LAND, Land([Lists(3, 1)])):
            for _ in range(30):
                desk = desk_of([deed for deed in some_deeds(draw, LAND, 6) if land is LAND or deed[0] == "strike"], land)
                low = LandMargin(land).least(desk.poll().sheets())[0]
                self.assertEqual(desk.say("low"), "none" if low is None else str(low))
                met.add(low)
        self.assertIn(None, met)
        self.assertGreater(len(met), 2)

    def test_house_outcome_idle_and_deeds(self):
        draw = random.Random(4)
        for _ in range(30):
            deeds = some_deeds(draw, LAND, 12)
            desk, poll = desk_of(deeds), poll_of(deeds)
            self.assertEqual(desk.say("house"), show_house(poll.house(), WORDS))
            self.assertEqual(desk.say("outcome") + "\n", show_outcome(poll.house(), WORDS))
            self.assertEqual(desk.say("idle"), str(len(idle(poll))))
            self.assertEqual(desk.say("deeds"), str(len(set(deeds))))
            facts = plain_facts(LAND, RULES, deeds)
            for number, word in facts["verdicts"].items():
                self.assertEqual(desk.say(f"verdict {number}"), word)
            for voter, area in facts["homes"].items():
                self.assertEqual(desk.say(f"may {voter}"), "none" if area is None else str(area))

    def test_back_and_again_at_either_end(self):
        desk = desk_of(DEEDS)
        for many in reversed(range(len(DEEDS))):
            self.assertEqual(desk.say("back"), str(many))
        for _ in range(2):
            with self.assertRaises(Nothing):
                desk.say("back")
        self.assertEqual(desk.poll(), poll_of([]))
        for many in range(len(DEEDS)):
            self.assertEqual(desk.say("again"), str(many + 1))
        with self.assertRaises(Nothing):
            desk.say("again")
        self.assertEqual(desk.poll(), poll_of(DEEDS))


class Refused(unittest.TestCase):
    """[12.4]"""

    def refused(self, desk, error, *rows):
        kept, log = all_told(desk), desk.poll()
        for row in rows:
            with self.assertRaises(error, msg=repr(row)):
                desk.say(row)
        self.assertEqual((all_told(desk), desk.poll()), (kept, log))

    def test_no_rows(self):
        desk = desk_of(DEEDS)
        self.refused(desk, NoRow, *no_wholes(), 0, 1, [], ["house"], (), ("put", DEEDS[0]))
        self.refused(
            desk, NoRow, "", " ", "House", "house ", " house", "house\n", "houses", "back 1", "again ", "idle 1", "low ", "deeds x", "put", "put ", "out",
            "reach", "verdict", "verdict ", "verdict 030", "verdict 00", "verdict -1", "verdict 12345678901", "verdict 30 ", "verdict  30",
            "verdict 30 31", "verdict ann", "may", "may ", "may Ann", "may ann bob", "may  ann", "may annannann", "may 1", "may ann\n",
            "put 1 roll 1 0 ann comes 2", "put 1 bundle 2", "reach 1 bundle 2", "out 1 bundle 2", "put 20 void", "put 20 void 01", "put  20 void 1",
            "put 20 void 1 ", "put 20 void 1\n", "reach 20 void 1 1", "reach void 1", "put 1 mail 4 bob 0 6 yellow", "take 20 void 1", "log",
        )

    def test_rows_with_one_sign_otherwise(self):
        for row in ROWS:
            desk = desk_of(DEEDS)
            desk.say("put 30 void 31")
            desk.say("back")
            met = {"told": 0, "refused": 0}
            for other in spoilt_texts(row):
                if other == row:
                    continue
                try:
                    told = desk.say(other)
                except NoRow:
                    met["refused"] += 1
                except (NoDeed, NoEnvelope, Nothing):
                    met["told"] += 1
                else:
                    self.assertIsInstance(told, str)
                    self.assertEqual(other.split(" ")[0], row.split(" ")[0])
                    met["told"] += 1
            self.assertGreater(met["refused"], 50)
            if " " not in row:
                self.assertEqual(met["told"], 0)

    def test_deeds_that_are_not_there(self):
        self.refused(desk_of(DEEDS), NoDeed, "out 20 void 1", "out 1 roll 1 0 ann comes 1", "out 7 bundle 0")
        self.refused(desk_of([]), NoDeed, "out 6 strike 31")

    def test_envelopes_that_do_not_stand(self):
        self.refused(desk_of(DEEDS), NoEnvelope, "verdict 0", "verdict 33", "verdict 1000000000", "verdict 9999999999")
        self.refused(desk_of(DEEDS + [("mail", 50, (30, "cy", 0, 1, ()))]), NoEnvelope, "verdict 30")
        self.refused(desk_of(DEEDS + [("void", 50, 3)]), NoEnvelope, "verdict 30")

    def test_nothing(self):
        self.refused(desk_of([]), Nothing, "back", "again")
        self.refused(desk_of(DEEDS), Nothing, "again")

    def test_what_is_refused_leaves_what_was_undone(self):
        desk = desk_of(DEEDS)
        desk.say("back")
        for row in ("put 1 bundle 2", "out 20 void 1", "nothing", "verdict 77"):
            with self.assertRaises((NoRow, NoDeed, NoEnvelope)):
                desk.say(row)
        self.assertEqual(desk.say("again"), str(len(DEEDS)))


class Own(unittest.TestCase):
    """[12.4]"""

    def test_the_poll_goes_by_itself(self):
        desk = desk_of(DEEDS)
        poll = desk.poll()
        poll.out(DEEDS[0])
        spoiled(poll.boxes())
        self.assertEqual(desk.poll(), poll_of(DEEDS))
        desk.say("put 20 void 1")
        self.assertEqual(poll, poll_of(DEEDS[1:]))

    def test_unlike_orders(self):
        """[0.7] Two desks that were told the same deeds in unlike orders tell the same."""
        draw = random.Random(7)
        for _ in range(25):
            deeds = some_deeds(draw, LAND, 12)
            one = desk_of(deeds)
            other = deeds + draw.sample(deeds, 3)
            draw.shuffle(other)
            two, away = desk_of(other), show_deed(("strike", 99, 3), WORDS)
            two.say("put " + away)
            two.say(draw.choice(("back", "out " + away)))
            self.assertEqual(all_told(two), all_told(one))
            self.assertEqual(two.poll(), one.poll())
            for deed in (any_deed(draw, LAND), deeds[0]):
                row = "reach " + show_deed(deed, WORDS)
                self.assertEqual(two.say(row), one.say(row))
