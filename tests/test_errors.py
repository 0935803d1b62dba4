"""The classes of the refusals (0.4 and the interface)."""

import inspect
import unittest

from dealclerks import errors

PLAIN = [
    "NoFamily", "NoKind", "NoCaller", "NoHouse", "NoSign", "NoSide", "NoRanks", "NoTree", "NoRow", "NoElders",
    "NoWriting", "Missing", "NoDeed", "Unlike", "BadLine",
]
AT = ["NoLine", "NoText", "Nobody", "Empty"]


class ErrorsTest(unittest.TestCase):
    def test_deal_error_is_straight_under_value_error(self):
        self.assertEqual(errors.DealError.__bases__, (ValueError,))

    def test_each_class_is_straight_under_deal_error(self):
        for name in PLAIN + AT + ["TooMany"]:
            with self.subTest(name):
                self.assertEqual(getattr(errors, name).__bases__, (errors.DealError,))
                self.assertEqual(getattr(errors, name).__name__, name)

    def test_there_is_no_other_class(self):
        found = [name for name, thing in vars(errors).items() if inspect.isclass(thing)]
        self.assertEqual(sorted(found), sorted(PLAIN + AT + ["TooMany", "DealError"]))

    def test_plain_ones_can_be_raised_and_caught(self):
        for name in PLAIN:
            with self.subTest(name):
                with self.assertRaises(errors.DealError) as caught:
                    raise getattr(errors, name)("no")
                self.assertEqual(type(caught.exception).__name__, name)
                self.assertIsInstance(getattr(errors, name)(), ValueError)

    def test_one_field(self):
        for name in AT:
            made = getattr(errors, name)
            with self.subTest(name):
                self.assertEqual([made(at).at for at in (0, -1, 7)], [0, -1, 7])
                self.assertEqual(made(at=3).at, 3)
                self.assertEqual(list(inspect.signature(made.__init__).parameters), ["self", "at"])
                self.assertRaises(TypeError, made)
                self.assertRaises(TypeError, made, 1, 2)

    def test_too_many(self):
        made = errors.TooMany(7, 6)
        self.assertEqual((made.many, made.most), (7, 6))
        made = errors.TooMany(most=40, many=41)
        self.assertEqual((made.many, made.most), (41, 40))
        self.assertEqual(list(inspect.signature(errors.TooMany.__init__).parameters), ["self", "many", "most"])
        self.assertRaises(TypeError, errors.TooMany, 1)

    def test_fields_are_each_object_s_own(self):
        one, other = errors.NoLine(1), errors.NoLine(2)
        self.assertEqual((one.at, other.at), (1, 2))
        self.assertNotIn("at", vars(errors.NoLine))


if __name__ == "__main__":
    unittest.main()
