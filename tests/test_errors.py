import unittest

from wholepoll import errors

PLAIN = (
    "NoNumber", "NoBallot", "NoSheet", "NoChange", "Torn", "NoBundle", "NoWay", "NoRoll", "NoTelling",
    "NoEnvelope", "NoLand", "NoPoll", "NoDeed", "Ended", "Nothing", "NoText", "NoRow",
)
NAMES = PLAIN + ("WrongNumber", "TooMany")


class Errors(unittest.TestCase):
    """[1.10] [0.8]"""

    def test_the_base_stands_straight_under_value_error(self):
        self.assertEqual(errors.PollError.__bases__, (ValueError,))

    def test_each_class_stands_straight_under_the_base(self):
        for name in NAMES:
            self.assertEqual(getattr(errors, name).__bases__, (errors.PollError,), name)

    def test_none_stands_under_another_one(self):
        for one in NAMES:
            for other in NAMES:
                under = issubclass(getattr(errors, one), getattr(errors, other))
                self.assertEqual(under, one == other, (one, other))

    def test_made_with_nothing_and_with_one_text(self):
        for name in PLAIN + ("PollError",):
            made = getattr(errors, name)
            self.assertIsInstance(made(), ValueError)
            self.assertEqual(str(made("so it is")), "so it is")

    def test_values_are_what_they_were_made_with(self):
        wrong = errors.WrongNumber(7, 5)
        self.assertEqual((wrong.wanted, wrong.got), (7, 5))
        many = errors.TooMany(200)
        self.assertEqual(many.most, 200)

    def test_raised_and_caught_by_name(self):
        for made in (errors.WrongNumber(1, 2), errors.TooMany(0), errors.Torn("x")):
            with self.assertRaises(errors.PollError):
                raise made
