import unittest

from whatran import errors
from whatran.errors import RanError

PLAIN = [
    "NoFraction", "NoCondition", "NoValues", "NoThrough", "NoNumber", "NoPoint", "NoWay",
    "NoName", "NoInputs", "NoCounts", "NoEnds", "NoMarks", "NoWeights", "NoSums", "NoRecord",
    "NoStand", "NoText", "NoRow",
]
FIELDS = {
    "NoProgram": "row", "NotEnough": "change", "NotLed": "why",
    "NoEdition": "name", "NoRun": "name", "Clash": "name",
}


class ErrorsTest(unittest.TestCase):
    def test_ran_error_stands_straight_under_value_error(self):
        self.assertEqual(RanError.__bases__, (ValueError,))

    def test_each_refusal_stands_straight_under_ran_error(self):
        for name in PLAIN + list(FIELDS):
            with self.subTest(name=name):
                self.assertEqual(getattr(errors, name).__bases__, (RanError,))
                self.assertEqual(getattr(errors, name).__module__, "whatran.errors")

    def test_a_plain_refusal_is_raised_with_a_text_or_without(self):
        for name in PLAIN:
            with self.subTest(name=name):
                self.assertEqual(str(getattr(errors, name)("why")), "why")
                with self.assertRaises(RanError):
                    raise getattr(errors, name)

    def test_each_field_is_set_when_the_error_is_made(self):
        told = [0, -1, "main", None, ("point", (3, 0)), {(0, 0, "on"): 1}, [], 10 ** 5000]
        for name, field in FIELDS.items():
            for thing in told:
                with self.subTest(name=name):
                    error = getattr(errors, name)(thing)
                    self.assertEqual(vars(error), {field: thing})
                    self.assertIs(getattr(error, field), thing)

    def test_an_error_with_a_field_has_a_message_whatever_the_field(self):
        for name in FIELDS:
            for thing in (10 ** 5000, [], "x"):
                self.assertTrue(str(getattr(errors, name)(thing)))

    def test_each_object_has_a_field_of_its_own(self):
        one, other = errors.Clash("a"), errors.Clash("b")
        self.assertEqual((one.name, other.name), ("a", "b"))


if __name__ == "__main__":
    unittest.main()
