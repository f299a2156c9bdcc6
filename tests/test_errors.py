"""The interface's section on errors, and point 2 as far as it speaks of them."""

import unittest

from climborsink import errors
from tests.things import OTHER_THINGS, WHOLE_NUMBERS

# The name, the class above it, and its fields with what each is created of.
ERRORS = (
    ("NoSky", TypeError, {"part": "makes"}),
    ("NoWords", ValueError, {"told": ("climb", "free")}),
    ("NotAgreed", RuntimeError, {"now": "dealt", "missing": (1, 3)}),
    ("NoLetter", KeyError, {"number": 7}),
    ("NoMotion", ArithmeticError, {"place": 2, "by": "climb"}),
    ("NoTurn", OverflowError, {"limit": 12}),
    ("NoOrder", LookupError, {"apart": -4}),
    ("NoDeed", IndexError, {"at": -9, "deeds": 8}),
    ("NoRow", ValueError, {"row": "climb 1"}),
)


class Errors(unittest.TestCase):
    def test_each_stands_straight_under_its_class(self):
        for name, above, fields in ERRORS:
            self.assertEqual(getattr(errors, name).__bases__, (above,), name)

    def test_these_are_all(self):
        named = [name for name, thing in vars(errors).items() if isinstance(thing, type)]
        self.assertEqual(sorted(named), sorted(name for name, above, fields in ERRORS))

    def test_fields(self):
        for name, above, fields in ERRORS:
            error = getattr(errors, name)(*fields.values())
            self.assertEqual(vars(error), fields, name)

    def test_fields_by_name(self):
        for name, above, fields in ERRORS:
            error = getattr(errors, name)(**fields)
            self.assertEqual(vars(error), fields, name)

    def test_raised_and_caught(self):
        for name, above, fields in ERRORS:
            with self.assertRaises(above) as caught:
                raise getattr(errors, name)(*fields.values())
            self.assertEqual(vars(caught.exception), fields, name)
            self.assertNotEqual(str(caught.exception), "")

    def test_none_where_none_is_told(self):
        self.assertEqual(vars(errors.NoMotion(None, None)), {"place": None, "by": None})
        self.assertEqual(vars(errors.NoMotion(1, None)), {"place": 1, "by": None})
        self.assertEqual(vars(errors.NoTurn(None)), {"limit": None})
        self.assertEqual(vars(errors.NotAgreed("clearing", ())), {"now": "clearing", "missing": ()})

    def test_any_thing_that_was_told(self):
        for thing in OTHER_THINGS + WHOLE_NUMBERS:
            self.assertEqual(repr(errors.NoWords(thing).told), repr(thing))
            self.assertEqual(repr(errors.NoLetter(thing).number), repr(thing))
            self.assertEqual(repr(errors.NoRow(thing).row), repr(thing))

    def test_a_list_changed_behind_the_call_changes_no_error(self):
        inner = ["climb"]
        told = [inner, (inner,)]
        words, letter, row = errors.NoWords(told), errors.NoLetter(told), errors.NoRow(told)
        inner.append("sink")
        told.append("hold")
        for field in (words.told, letter.number, row.row):
            self.assertEqual(field, [["climb"], (["climb"],)])

    def test_two_errors_share_nothing(self):
        first, second = errors.NoRow([1]), errors.NoRow([2])
        self.assertEqual((first.row, second.row), ([1], [2]))


if __name__ == "__main__":
    unittest.main()
