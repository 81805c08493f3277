"""The errors (0.3)."""

import copy
import unittest

from calmblanks import errors
from calmblanks.errors import BlankError
from tests.helper import odd_numbers

PLAIN = """BadSizes NoPattern NoContent OtherSizes NoFraction NoThing OtherColumns NotAll NoLots NoTie NoNumber NoWay
NoWish NoGroup NoColumn NoView NotTilted NotAlike BadFamily NoRow NothingDone NoRows NoLead LastColumn NoLine NoArrow
NoLines""".split()
WITH_FIELD = {
    "BadSeen": "part", "BadWhole": "part", "BadRow": "index", "BadWeb": "part", "BadTables": "thing",
    "NotTold": "column", "NotFull": "view", "TooMany": "most", "NoShares": "worths", "BadText": "at",
    "NotCalm": "column", "NotClosed": "pattern", "BadTilts": "column", "BadFilling": "view", "BadThrow": "index",
}


class Errors(unittest.TestCase):
    def test_blank_error_derives_directly_from_value_error(self):
        self.assertEqual(BlankError.__bases__, (ValueError,))
        self.assertEqual(vars(BlankError()), {})

    def test_each_other_derives_directly_from_blank_error(self):
        for name in PLAIN + list(WITH_FIELD):
            error = getattr(errors, name)
            self.assertEqual(error.__bases__, (BlankError,), name)
            self.assertEqual((error.__name__, error.__module__), (name, "calmblanks.errors"))

    def test_there_are_no_others(self):
        found = [name for name, thing in vars(errors).items() if isinstance(thing, type)]
        self.assertEqual(sorted(found), sorted(PLAIN + list(WITH_FIELD) + ["BlankError"]))

    def test_those_without_a_field_are_made_with_nothing(self):
        for name in PLAIN:
            error = getattr(errors, name)
            self.assertEqual(vars(error()), {}, name)
            self.assertRaises(TypeError, error, "more")

    def test_those_with_a_field_are_made_with_just_this(self):
        for name, field in WITH_FIELD.items():
            error = getattr(errors, name)
            for thing in odd_numbers():
                made = error(thing)
                self.assertEqual(list(vars(made)), [field], name)
                self.assertIs(vars(made)[field], thing)
            self.assertRaises(TypeError, error)
            self.assertRaises(TypeError, error, 1, 2)

    def test_they_can_be_shown_and_copied(self):
        for name, field in WITH_FIELD.items():
            made = getattr(errors, name)((0, -1))
            self.assertIsInstance(str(made) + repr(made), str)
            self.assertEqual(getattr(copy.copy(made), field), (0, -1))

    def test_they_are_caught_by_their_bases(self):
        for name in PLAIN + list(WITH_FIELD):
            made = getattr(errors, name)(*([0] if name in WITH_FIELD else []))
            for base in (BlankError, ValueError):
                with self.assertRaises(base):
                    raise made


if __name__ == "__main__":
    unittest.main()
