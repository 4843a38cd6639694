"""[10] and deedpiles/fields.py."""

import unittest
from copy import deepcopy
from itertools import permutations

from deedpiles.errors import BadField, PileError
from deedpiles.fields import need_field, touching
from by_words import STRANGE, apart, fields_of

ABC = ("a", "b", "c")
SIX = ("a", "ab", "abcdef", "b", "z", "zzzzzz")
FIELD = (ABC, (("a", "b"),))


class FieldCase(unittest.TestCase):
    def refused(self, field, part):
        before = deepcopy(field)
        for call in (lambda: need_field(field), lambda: touching(field, "a"), lambda: touching(field, [])):
            with self.assertRaises(BadField) as caught:
                call()
            self.assertEqual(caught.exception.part, part, field)
            self.assertIsInstance(caught.exception, PileError)
        self.assertEqual(field, before)


class NeedFieldTests(FieldCase):
    def test_fields(self):
        fields = [(("a",), ()), (SIX, ()), (SIX, (("a", "ab"), ("a", "zzzzzz"), ("ab", "b"))), (("zzzzzz",), ())]
        for field in fields + list(fields_of(ABC)) + list(fields_of(("x", "y"))):
            self.assertIs(need_field(field), field)
            self.assertIs(need_field(field=field), field)

    def test_all_pairs_of_six_names(self):
        pairs = tuple((one, other) for one in SIX for other in SIX if one < other)
        self.assertEqual(need_field((SIX, pairs)), (SIX, pairs))

    def test_form(self):
        for value in STRANGE:
            if not (isinstance(value, tuple) and len(value) == 2):
                self.refused(value, "form")
        for value in ((), (ABC,), (ABC, (), ()), [ABC, ()], {ABC: ()}, "ab", FIELD + FIELD):
            self.refused(value, "form")

    def test_names(self):
        for value in STRANGE:
            if value != ABC:
                self.refused((value, ()), "names")
            self.refused(((value,), ()), "names")
            self.refused((("a", value), ()), "names")
            self.refused(((value, "zz"), ()), "names")
        for names in (ABC[::-1], ("a", "a"), ("a", "b", "b"), ("b", "a"), ("ab", "a"), list(ABC), "abc", {"a": 1}):
            self.refused((names, ()), "names")

    def test_how_many_names(self):
        self.refused(((), ()), "names")
        self.refused((("a", "b", "c", "d", "e", "f", "g"), ()), "names")
        self.assertEqual(len(need_field((("a", "b", "c", "d", "e", "f"), ()))[0]), 6)
        self.assertEqual(len(need_field((("f",), ()))[0]), 1)

    def test_letters(self):
        for name in ("a", "z", "m", "abcdef", "zzzzzz", "aaaaaa"):
            self.assertEqual(need_field(((name,), ())), ((name,), ()))
        for name in ("", "abcdefg", "aaaaaaa", "A", "aB", "a1", "a ", " a", "a\n", "`", "{", "a_b", "a-b", "a^", "^"):
            self.refused(((name,), ()), "names")

    def test_pairs(self):
        for value in STRANGE:
            if value == ():
                continue
            self.refused((ABC, value), "pairs")
            self.refused((ABC, (value,)), "pairs")
            self.refused((ABC, (("a", "b"), value)), "pairs")
            self.refused((ABC, (("a", value),)), "pairs")
            self.refused((ABC, ((value, "b"),)), "pairs")

    def test_pairs_of_other_names_or_turned(self):
        for pair in (("b", "a"), ("a", "a"), ("a", "d"), ("A", "b"), ("", "a"), ["a", "b"], "ab", ("a", "b", "c"), ("a",)):
            self.refused((ABC, (pair,)), "pairs")

    def test_order_of_pairs(self):
        pairs = (("a", "b"), ("a", "c"), ("b", "c"))
        for row in permutations(pairs):
            if row == pairs:
                self.assertEqual(need_field((ABC, row)), (ABC, pairs))
            else:
                self.refused((ABC, row), "pairs")
        self.refused((ABC, (("a", "b"), ("a", "b"))), "pairs")
        self.refused((ABC, list(pairs)), "pairs")
        self.refused((ABC, {("a", "b"): 1}), "pairs")

    def test_names_are_looked_at_ahead_of_pairs(self):
        for value in STRANGE:
            if value != ():
                self.refused((("b", "a"), value), "names")
        self.refused((("b", "a"), (("b", "a"),)), "names")


class TouchingTests(FieldCase):
    def test_touching(self):
        self.assertEqual(touching(FIELD, "a"), ("a", "c"))
        self.assertEqual(touching(FIELD, "b"), ("b", "c"))
        self.assertEqual(touching(FIELD, "c"), ("a", "b", "c"))
        self.assertEqual(touching((("a",), ()), "a"), ("a",))

    def test_all_small_fields(self):
        for field in fields_of(("a", "bb", "c", "d")):
            for name in field[0]:
                told = tuple(other for other in field[0] if not apart(field, name, other))
                self.assertEqual(touching(field, name), told)
                self.assertIn(name, told)

    def test_no_name(self):
        for value in STRANGE + ("d", "aa", "ab", "abc", FIELD, ABC, ("a",), ["a", "b", "c"]):
            before = deepcopy(value)
            self.assertEqual(touching(FIELD, value), ())
            self.assertEqual(value, before)

    def test_by_name(self):
        self.assertEqual(touching(field=FIELD, name="a"), ("a", "c"))
        self.assertEqual(touching(name="a", field=FIELD), ("a", "c"))
        self.assertEqual(touching(FIELD, name="a"), touching(FIELD, "a"))


if __name__ == "__main__":
    unittest.main()
