"""[4]: the refusals."""

import inspect
import unittest

from groundlots import errors
from groundlots.errors import GroundError

PLAIN = ["BadName", "BadNames", "BadRule", "BadRules", "NotPlain", "NotHeld", "IsHeld", "BadSets",
         "TooMany", "NoDeed", "BadRanks", "Needed", "BadWay", "Contrary", "BadParts"]
WITH_FIELD = {"NoText": "row", "NoRule": "number", "Twice": "name", "NotThere": "name",
              "NoLog": "at", "BadStep": "at"}
ALL = PLAIN + list(WITH_FIELD)


class Classes(unittest.TestCase):
    def test_each_refusal_is_there_and_no_other_class(self):
        there = [name for name, _ in inspect.getmembers(errors, inspect.isclass)]
        self.assertEqual(sorted(there), sorted(ALL + ["GroundError"]))

    def test_each_is_defined_in_this_file(self):
        for name in ALL + ["GroundError"]:
            self.assertEqual(getattr(errors, name).__module__, "groundlots.errors", name)

    def test_ground_error_is_straight_under_value_error(self):
        self.assertEqual(GroundError.__bases__, (ValueError,))

    def test_each_is_straight_under_ground_error(self):
        for name in ALL:
            self.assertEqual(getattr(errors, name).__bases__, (GroundError,), name)

    def test_none_is_another_one(self):
        for one in ALL:
            for other in ALL:
                under = issubclass(getattr(errors, one), getattr(errors, other))
                self.assertEqual(under, one == other, (one, other))


class Fields(unittest.TestCase):
    def test_fields_by_place_and_by_name(self):
        for name, field in WITH_FIELD.items():
            for thing in (0, 3, "a"):
                refusal = getattr(errors, name)
                self.assertEqual(getattr(refusal(thing), field), thing, name)
                self.assertEqual(getattr(refusal(**{field: thing}), field), thing, name)

    def test_a_field_holds_anything_and_the_text_can_be_had(self):
        deep = []
        for _ in range(5000):
            deep = [deep]
        for name, field in WITH_FIELD.items():
            for thing in (None, True, 1.5, [], {"a": 1}, deep):
                refusal = getattr(errors, name)(thing)
                self.assertIs(getattr(refusal, field), thing)
                self.assertIsInstance(str(refusal), str)

    def test_no_other_fields(self):
        for name, field in WITH_FIELD.items():
            self.assertEqual(list(vars(getattr(errors, name)("a"))), [field], name)
        for name in PLAIN:
            self.assertEqual(vars(getattr(errors, name)("why")), {}, name)


class Raised(unittest.TestCase):
    def test_each_is_caught_as_ground_error_and_as_value_error(self):
        for name in ALL:
            for base in (GroundError, ValueError, getattr(errors, name)):
                with self.assertRaises(base):
                    raise getattr(errors, name)("a")

    def test_the_text_tells_something(self):
        for name in WITH_FIELD:
            self.assertNotEqual(str(getattr(errors, name)(1)), "")
        for name in PLAIN:
            self.assertEqual(str(getattr(errors, name)("why")), "why")


if __name__ == "__main__":
    unittest.main()
