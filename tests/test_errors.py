"""The refusals: their bases, how they are made, and the values that they carry."""

import unittest

from bellplaces import errors

PLAIN = ("NoPlan", "NoHouse", "NoRow", "NoBell", "NoRoom", "NoLine", "NoPerson", "NoPlace")
WITH_VALUE = {"Crossed": "why", "NoWorld": "paper", "NoMove": "at", "NoKind": "room", "NoText": "row"}


class TestErrors(unittest.TestCase):
    def test_bell_error_stands_straight_under_value_error(self):
        self.assertEqual(errors.BellError.__bases__, (ValueError,))

    def test_each_refusal_stands_straight_under_bell_error_alone(self):
        for name in PLAIN + tuple(WITH_VALUE):
            with self.subTest(name=name):
                self.assertEqual(getattr(errors, name).__bases__, (errors.BellError,))
                self.assertEqual(getattr(errors, name).__name__, name)

    def test_there_are_no_other_refusals(self):
        found = {name for name, thing in vars(errors).items() if isinstance(thing, type)}
        self.assertEqual(found, {"BellError", *PLAIN, *WITH_VALUE})

    def test_none_stands_under_another_one(self):
        names = PLAIN + tuple(WITH_VALUE)
        for one in names:
            for other in names:
                if one != other:
                    self.assertFalse(issubclass(getattr(errors, one), getattr(errors, other)))

    def test_plain_ones_are_made_with_a_text(self):
        for name in PLAIN:
            with self.subTest(name=name):
                error = getattr(errors, name)("what was wrong")
                self.assertIsInstance(error, ValueError)
                self.assertEqual(str(error), "what was wrong")

    def test_the_others_carry_their_value_from_the_start(self):
        values = {
            "why": ("twice", 1, (0, "count", 1, 1, 1, (1,)), (0, "count", 1, 2, 1, (1,))),
            "paper": ("few", (0, 2)), "at": 0, "room": 7, "row": 12,
        }
        for name, attribute in WITH_VALUE.items():
            with self.subTest(name=name):
                error = getattr(errors, name)(values[attribute])
                self.assertEqual(getattr(error, attribute), values[attribute])
                self.assertEqual(vars(error), {attribute: values[attribute]})

    def test_values_of_two_objects_are_their_own(self):
        one, other = errors.NoMove(1), errors.NoMove(2)
        self.assertEqual((one.at, other.at), (1, 2))

    def test_each_is_raised_and_caught_by_its_own_name_and_by_bell_error(self):
        for name in PLAIN + tuple(WITH_VALUE):
            refusal = getattr(errors, name)
            for caught in (refusal, errors.BellError, ValueError):
                with self.subTest(name=name, caught=caught):
                    with self.assertRaises(caught):
                        raise refusal("text")


if __name__ == "__main__":
    unittest.main()
