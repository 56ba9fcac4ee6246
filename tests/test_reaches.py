import copy
import random
import unittest

from tests.draws import is_told_anew, spoiled
from tests.test_polls import DEEDS, poll_of
from tests.things import anything_but_tuples
from tests.truths import BY_LISTS, LAND, RULES, any_deed, facts_of, plain_facts, plain_reached, some_deeds
from wholepoll.errors import NoDeed, Nothing
from wholepoll.house import House
from wholepoll.lands import Land
from wholepoll.polls import Poll
from wholepoll.reaches import Ledger, idle, reached

NONE = ([], [], [], [], [], False)
NO_DEEDS = [("strike", True, 1), ("bundle", 1, 2, ()), ("roll", 1, (1, 0, "ann", "comes", 5)), ("mail", 1, (1, "ann", 0, 1, (8,))), ["void", 1, 1]]


class Reached(unittest.TestCase):
    """[11.5]"""

    def test_each_of_the_six_kinds(self):
        poll = poll_of(DEEDS)
        for deed, due in (
            # A voter who comes: the envelope of one who was a stranger counts.
            (("roll", 20, (5, 0, "bob", "comes", 1)), (["bob"], [32], [], [1], [1], False)),
            (("roll", 20, (5, 0, "cy", "comes", 1)), (["cy"], [], [], [], [], False)),
            (("mail", 20, (33, "ann", 0, 6, (2,))), ([], [33], [], [], [], False)),
            (("strike", 20, 30), ([], [30], [], [0], [], False)),
            (("bundle", 20, 0, ()), ([], [], [20], [], [], False)),
            (("bundle", 20, 0, (((), 5),)), ([], [], [20], [0], [], False)),
            (("bundle", 20, 1, (((1,), 9),)), ([], [], [20], [1], [1], True)),
            (("recount", 20, 7, (((1,), 4), ((2,), 1))), ([], [], [7], [], [], False)),
            (("recount", 20, 7, (((2,), 5),)), ([], [], [7], [0], [0], True)),
            (("recount", 20, 7, (((2,), 6),)), NONE),
            (("void", 20, 1), (["ann"], [30], [], [0], [], False)),
            (("void", 20, 9), ([], [], [8], [1], [1], True)),
            (("void", 20, 77), NONE),
        ):
            told = reached(poll, deed)
            self.assertEqual(told, plain_reached(LAND, RULES, DEEDS, deed))
            self.assertEqual(told[:3], due[:3])
            self.assertEqual(told == NONE, due == NONE)
            # Taken out again, the same is reached.
            other = poll_of(DEEDS + [deed])
            self.assertEqual(reached(other, deed), told)
            self.assertEqual(reached(other, deed), plain_reached(LAND, RULES, DEEDS + [deed], deed))

    def test_a_deed_whose_number_is_there(self):
        """With unlike deeds of its number what stood falls, and what it voided stands again."""
        land = Land(BY_LISTS.areas, 1)
        deeds = [("roll", 1, (1, 0, "ann", "comes", 0)), ("bundle", 3, 0, (((1,), 2), ((2,), 1))), ("bundle", 4, 1, (((2,), 2),)), ("void", 5, 4)]
        for deed, due in (
            (("strike", 1, 1), (["ann"], [], [], [], [], False)), (("strike", 3, 1), ([], [], [3], [0], [0], False)),
            (("strike", 5, 1), ([], [], [4], [1], [1], True)), (("void", 4, 4), NONE),
        ):
            told = reached(poll_of(deeds, land), deed)
            self.assertEqual(told, plain_reached(land, RULES, deeds, deed))
            self.assertEqual(told[:4], due[:4])
            self.assertEqual(reached(poll_of(deeds + [deed], land), deed), told)

    def test_drawn(self):
        draw = random.Random(115)
        met = [0] * 7
        for land in (LAND, BY_LISTS):
            for _ in range(100):
                deeds = some_deeds(draw, land, draw.choice((4, 10, 16)))
                poll = poll_of(deeds, land)
                for deed in [any_deed(draw, land), draw.choice(deeds), any_deed(draw, land, 40)]:
                    told = reached(poll, deed)
                    self.assertEqual(told, plain_reached(land, RULES, deeds, deed))
                    for place, one in enumerate(told):
                        met[place] += bool(one)
                    met[6] += told == NONE
                self.assertEqual(poll, poll_of(deeds, land))
        self.assertGreater(min(met), 20)

    def test_no_deeds(self):
        poll = poll_of(DEEDS)
        for thing in anything_but_tuples() + NO_DEEDS:
            with self.assertRaises(NoDeed):
                reached(poll, thing)
        self.assertEqual(poll, poll_of(DEEDS))

    def test_idle(self):
        draw = random.Random(15)
        met = 0
        for land in (LAND, BY_LISTS):
            for _ in range(40):
                deeds = some_deeds(draw, land, draw.choice((4, 10, 16)))
                poll = poll_of(deeds, land)
                due = [deed for deed in poll.deeds() if reached(poll, deed) == NONE]
                self.assertEqual(idle(poll), due)
                self.assertEqual(poll, poll_of(deeds, land))
                met += len(due)
        self.assertGreater(met, 50)
        self.assertEqual(idle(Poll(LAND, RULES)), [])
        self.assertEqual(idle(poll_of(DEEDS)), [("roll", 2, (2, 0, "bob", "comes", 1))])

    def test_what_is_told_is_the_askers_own(self):
        """[0.2]"""
        poll = poll_of(DEEDS)
        self.assertTrue(is_told_anew(lambda: reached(poll, ("strike", 20, 30))))
        self.assertTrue(is_told_anew(lambda: idle(poll)))
        self.assertEqual(facts_of(poll), plain_facts(LAND, RULES, DEEDS))


class Puts(unittest.TestCase):
    """[11.6]"""

    def test_what_is_answered(self):
        draw = random.Random(116)
        for land in (LAND, BY_LISTS):
            ledger, deeds = Ledger(Poll(land, RULES)), []
            for _ in range(120):
                deed = any_deed(draw, land, 20)
                if deed in deeds and draw.random() < 0.7:
                    due = plain_reached(land, RULES, deeds, deed)
                    self.assertEqual(ledger.out(deed), due)
                    deeds.remove(deed)
                elif deed in deeds:
                    self.assertEqual(ledger.put(deed), NONE)
                else:
                    due = plain_reached(land, RULES, deeds, deed)
                    self.assertEqual(ledger.put(deed), due)
                    deeds.append(deed)
                if len(deeds) > 15:
                    gone = draw.choice(deeds)
                    self.assertEqual(ledger.out(gone), plain_reached(land, RULES, deeds, gone))
                    deeds.remove(gone)
                self.assertEqual(ledger.house().outcome(), plain_facts(land, RULES, deeds)["outcome"])
                self.assertEqual(ledger.poll(), poll_of(deeds, land))

    def test_puts_of_what_is_there_and_outs_of_what_is_not(self):
        ledger = Ledger(poll_of(DEEDS))
        self.assertEqual((len(ledger), ledger.log()), (0, []))
        self.assertEqual(ledger.put(DEEDS[0]), NONE)
        self.assertEqual((len(ledger), ledger.log()), (1, [("put", DEEDS[0])]))
        self.assertEqual(ledger.back(), ("put", DEEDS[0]))
        # It was there ahead of the put, so it stays.
        self.assertEqual(ledger.poll(), poll_of(DEEDS))
        self.assertEqual(ledger.again(), ("put", DEEDS[0]))
        self.assertEqual((len(ledger), ledger.poll()), (1, poll_of(DEEDS)))
        with self.assertRaises(NoDeed):
            ledger.out(("void", 77, 77))
        self.assertEqual(len(ledger), 1)

    def test_what_is_refused_changes_nothing(self):
        ledger = Ledger(poll_of(DEEDS))
        ledger.put(("strike", 20, 30))
        ledger.put(("strike", 21, 32))
        ledger.back()
        kept = (ledger.log(), ledger.poll(), ledger.house().outcome())
        for thing in anything_but_tuples() + NO_DEEDS:
            for ask in (ledger.put, ledger.out):
                with self.assertRaises(NoDeed):
                    ask(thing)
        with self.assertRaises(NoDeed):
            ledger.out(("strike", 21, 32))
        self.assertEqual((ledger.log(), ledger.poll(), ledger.house().outcome()), kept)
        # What was undone can still be done anew.
        self.assertEqual(ledger.again(), ("put", ("strike", 21, 32)))
        kept = (ledger.log(), ledger.poll(), ledger.house().outcome())
        with self.assertRaises(Nothing):
            ledger.again()
        self.assertEqual((ledger.log(), ledger.poll(), ledger.house().outcome()), kept)


class BackAndAgain(unittest.TestCase):
    """[11.6]"""

    def test_up_to_either_end(self):
        ledger = Ledger(Poll(LAND, RULES))
        done, states = [], [(ledger.poll(), ledger.house().outcome())]
        for deed in DEEDS:
            ledger.put(deed)
            done.append(("put", deed))
            states.append((ledger.poll(), ledger.house().outcome()))
        for deed in (DEEDS[3], DEEDS[7]):
            ledger.out(deed)
            done.append(("out", deed))
            states.append((ledger.poll(), ledger.house().outcome()))
        for _ in range(2):
            for place in reversed(range(len(done))):
                self.assertEqual(ledger.back(), done[place])
                self.assertEqual((ledger.poll(), ledger.house().outcome()), states[place])
                self.assertEqual((ledger.log(), len(ledger)), (done[:place], place))
            with self.assertRaises(Nothing):
                ledger.back()
            for place in range(len(done)):
                self.assertEqual(ledger.again(), done[place])
                self.assertEqual((ledger.poll(), ledger.house().outcome()), states[place + 1])
                self.assertEqual((ledger.log(), len(ledger)), (done[:place + 1], place + 1))
            with self.assertRaises(Nothing):
                ledger.again()

    def test_nothing(self):
        for ledger in (Ledger(Poll(LAND, RULES)), Ledger(poll_of(DEEDS))):
            for ask in (ledger.back, ledger.again, ledger.back):
                with self.assertRaises(Nothing):
                    ask()

    def test_a_put_between_them(self):
        ledger = Ledger(poll_of(DEEDS))
        one, two, three = ("strike", 20, 30), ("strike", 21, 31), ("strike", 22, 32)
        ledger.put(one)
        ledger.put(two)
        ledger.back()
        ledger.put(three)
        with self.assertRaises(Nothing):
            ledger.again()
        self.assertEqual(ledger.log(), [("put", one), ("put", three)])
        # A put of a deed that is there is done, too.
        ledger.back()
        ledger.put(one)
        with self.assertRaises(Nothing):
            ledger.again()
        self.assertEqual(ledger.log(), [("put", one), ("put", one)])
        ledger.back()
        self.assertEqual(ledger.poll(), poll_of(DEEDS + [one]))
        ledger.back()
        self.assertEqual(ledger.poll(), poll_of(DEEDS))
        ledger.again()
        ledger.out(one)
        with self.assertRaises(Nothing):
            ledger.again()
        self.assertEqual(ledger.back(), ("out", one))
        self.assertEqual(ledger.poll(), poll_of(DEEDS + [one]))

    def test_drawn(self):
        draw = random.Random(6)
        ledger, done, undone = Ledger(Poll(BY_LISTS, RULES)), [], []
        for _ in range(300):
            deeds = []
            for word, deed in done:
                deeds = [one for one in deeds if one != deed] + ([deed] if word == "put" else [])
            self.assertEqual(ledger.poll(), poll_of(deeds, BY_LISTS))
            self.assertEqual(ledger.house().outcome(), plain_facts(BY_LISTS, RULES, deeds)["outcome"])
            self.assertEqual(ledger.log(), done)
            what = draw.choice(("put", "put", "out", "back", "back", "again", "again"))
            if what == "put" or (what == "out" and deeds):
                deed = any_deed(draw, BY_LISTS, 9) if what == "put" else draw.choice(deeds)
                (ledger.put if what == "put" else ledger.out)(deed)
                done.append((what, deed))
                undone = []
            elif what == "back" and done:
                undone.append(done.pop())
                self.assertEqual(ledger.back(), undone[-1])
            elif what == "again" and undone:
                done.append(undone.pop())
                self.assertEqual(ledger.again(), done[-1])
            elif what != "out":
                with self.assertRaises(Nothing):
                    (ledger.back if what == "back" else ledger.again)()


class Own(unittest.TestCase):
    """[11.6] [0.2]"""

    def test_what_was_told_goes_by_itself(self):
        ledger = Ledger(poll_of(DEEDS))
        house, poll = ledger.house(), ledger.poll()
        due = (house.outcome(), house.paper(), house.in_all())
        ledger.put(("bundle", 20, 1, (((1,), 9),)))
        ledger.put(("bundle", 21, 0, (((2,), 9),)))
        self.assertNotEqual(ledger.house().outcome(), due[0])
        self.assertEqual((house.outcome(), house.paper(), house.in_all()), due)
        self.assertEqual(poll, poll_of(DEEDS))
        poll.put(("void", 50, 7))
        ledger.poll().out(DEEDS[0])
        self.assertEqual(ledger.poll(), poll_of(DEEDS + [("bundle", 20, 1, (((1,), 9),)), ("bundle", 21, 0, (((2,), 9),))]))
        self.assertIsInstance(house, House)

    def test_the_poll_handed_in_goes_by_itself(self):
        poll = poll_of(DEEDS)
        ledger = Ledger(poll)
        ledger.put(("strike", 20, 30))
        self.assertEqual(poll, poll_of(DEEDS))
        poll.out(DEEDS[0])
        self.assertEqual(ledger.poll(), poll_of(DEEDS + [("strike", 20, 30)]))

    def test_told_lists(self):
        ledger = Ledger(poll_of(DEEDS))
        spoiled(ledger.put(("strike", 20, 30)))
        spoiled(ledger.out(("strike", 20, 30)))
        self.assertTrue(is_told_anew(ledger.log))
        kept = copy.deepcopy(ledger.house().outcome())
        spoiled(ledger.house().outcome())
        self.assertEqual(ledger.house().outcome(), kept)
