"""[2], [3] and the classes of deedpiles/errors.py."""

import unittest

from deedpiles import errors
from deedpiles.errors import (
    BadClaims, BadField, BadMoves, BadNumber, BadPaper, BadScript, BadSpot, BadText, BadYard, Held, PileError, TooGreat,
    Unlike,
)
from by_words import STRANGE

FIELDS = (
    (BadField, ("part",)), (BadScript, ("place",)), (BadMoves, ("place",)), (BadYard, ("part",)),
    (BadSpot, ("value",)), (BadPaper, ("word",)), (BadNumber, ("value",)), (BadClaims, ("place",)),
    (BadText, ("line", "word")), (Unlike, ("value",)), (Held, ("value",)), (TooGreat, ("most",)),
)


class ErrorTests(unittest.TestCase):
    def test_made_by_position(self):
        for kind, names in FIELDS:
            error = kind(*[f"of {name}" for name in names])
            for name in names:
                self.assertEqual(getattr(error, name), f"of {name}", kind)

    def test_made_by_name(self):
        for kind, names in FIELDS:
            error = kind(**{name: f"of {name}" for name in reversed(names)})
            for name in names:
                self.assertEqual(getattr(error, name), f"of {name}", kind)

    def test_fields_take_any_value(self):
        for kind, names in FIELDS:
            for value in STRANGE:
                error = kind(*[value for _ in names])
                self.assertTrue(all(getattr(error, name) is value for name in names), kind)

    def test_made_with_just_these_fields(self):
        for kind, names in FIELDS:
            with self.assertRaises(TypeError):
                kind(*[1 for _ in names], 1)
            with self.assertRaises(TypeError):
                kind()
            with self.assertRaises(TypeError):
                kind(wrong=1)

    def test_classes(self):
        self.assertEqual(PileError.__bases__, (ValueError,))
        self.assertEqual(TooGreat.__bases__, (OverflowError,))
        for kind, _ in FIELDS:
            if kind is not TooGreat:
                self.assertEqual(kind.__bases__, (PileError,), kind)

    def test_of_which_classes_they_are(self):
        for kind, names in FIELDS:
            error = kind(*[0 for _ in names])
            others = [other for other, _ in FIELDS if other is not kind]
            self.assertNotIsInstance(error, tuple(others))
            self.assertEqual(isinstance(error, PileError), kind is not TooGreat)
            self.assertEqual(isinstance(error, ValueError), kind is not TooGreat)
            self.assertEqual(isinstance(error, OverflowError), kind is TooGreat)
            self.assertNotIsInstance(error, (TypeError, LookupError))

    def test_raised_and_caught(self):
        for kind, names in FIELDS:
            with self.assertRaises(OverflowError if kind is TooGreat else PileError) as caught:
                raise kind(*[7 for _ in names])
            self.assertIs(caught.exception.__class__, kind)

    def test_operators(self):
        for kind, names in FIELDS:
            error = kind(*[1 for _ in names])
            self.assertTrue(error != 1 and error != kind(*[1 for _ in names]) and error == error)
            self.assertFalse(error == (1,) or error == "1")
            for act in (lambda one: one + 1, lambda one: one < 1, lambda one: 1 * one, lambda one: 1 in one):
                with self.assertRaises(TypeError):
                    act(error)

    def test_no_other_errors(self):
        here = {name for name, value in vars(errors).items() if isinstance(value, type)}
        self.assertEqual(here, {kind.__name__ for kind, _ in FIELDS} | {"PileError"})


if __name__ == "__main__":
    unittest.main()
