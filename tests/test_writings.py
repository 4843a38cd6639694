"""[60] and deedpiles/writings.py."""

import unittest
from itertools import product
from math import comb, factorial

from by_words import STRANGE, alike, fields_of, least_of, length_by, rows_of, scripts_of, taken_back_of, units_of
from checks import ABC, FIELD, FIELDS, GOOD, MOST, SCRIPTS, CallCase
from deedpiles.errors import BadNumber, BadScript, TooGreat
from deedpiles.writings import all_writings, is_writing, many_writings, writing_at, writing_number

TIGHT = (ABC, ())
LOOSE = (ABC, (("a", "b"), ("a", "c"), ("b", "c")))
PATH = (("a", "b", "c", "d"), (("a", "c"), ("a", "d"), ("b", "d")))
SIX = (tuple("abcdef"), tuple((one, other) for one in "abcdef" for other in "abcdef" if one < other))
OF_SCRIPTS = (many_writings, all_writings)
OF_ROWS = (is_writing, writing_number)

ROWS = [
    (None, BadScript, None), ([("a", 1)], BadScript, None), ((("a", 1),) * 201, BadScript, None), ((None,) * 201, BadScript, None),
    ((None,), BadScript, 0), ((("a", 1), ("d", 1), None), BadScript, 1), ((("a", 0),), BadScript, 0), ((("a", 1), ("b", 2)), BadScript, 1),
    ((("a", -2),), BadScript, 0), ((("a", MOST),), BadScript, 0), ((("a", MOST + 1),), BadScript, 0), ((("a", 1),) * 199 + (("a", True),), BadScript, 199),
    ((("a", "1"),), BadScript, 0), ((["a", 1],), BadScript, 0), ((("a", 1, 1),), BadScript, 0), ((("a", 1), ("b", -1), "c"), BadScript, 2),
] + [(value, BadScript, None) for value in STRANGE if not isinstance(value, tuple)] + [((("b", -1), value), BadScript, 1) for value in STRANGE]

# Scripts with as many lower parts of whole units as may be, and with one more; each with its number of writings.
FULL = (("a", 19), ("b", -24), ("c", 39))
OVER = (("a", 2), ("b", -58), ("c", 112))


def wrong_numbers(many):
    """Values that are the number of none of so many writings."""
    values = [value for value in STRANGE + (many, many + 1, 10 ** 999, -2) if value.__class__ is not int or not 0 <= value < many]
    return [(value, BadNumber, value) for value in values]


def of_three(one, other, third):
    """In how many orders so many units of three names can come that are all apart."""
    return factorial(one + other + third) // factorial(one) // factorial(other) // factorial(third)


def small_scripts():
    """Fields with scripts of up to 4 steps, each with few of the scripts, others for each."""
    for number, field in enumerate(fields_of(ABC)):
        for many in range(5):
            for script in scripts_of(ABC, (1, -1, 2), many, (1, 1, 3, 17, 97)[many] + number):
                yield field, script
    for number, field in enumerate(fields_of(PATH[0])):
        for script in scripts_of(PATH[0], (1, -1), 6, 20011 + number):
            yield field, script


class CallTests(CallCase):
    def test_refused(self):
        for act in OF_SCRIPTS:
            self.refuses(act, {"field": FIELD, "deeds": GOOD}, {"field": FIELDS, "deeds": SCRIPTS})
        numbers = wrong_numbers(many_writings(FIELD, GOOD))
        self.refuses(writing_at, {"field": FIELD, "deeds": GOOD, "number": 0}, {"field": FIELDS, "deeds": SCRIPTS, "number": numbers})
        for act in OF_ROWS:
            self.refuses(act, {"field": FIELD, "row": (("a", 1),)}, {"field": FIELDS, "row": ROWS})

    def test_too_great_ahead_of_numbers(self):
        for field, deeds, most in ((FIELD, (("a", MOST),), 200), (FIELD, (("a", 100), ("c", 101)), 200), (LOOSE, OVER, 20000)):
            for number in (0, 1, -1, 10 ** 999) + STRANGE:
                self.refused(lambda: writing_at(field, deeds, number), TooGreat, most)

    def test_called(self):
        for deeds in (GOOD, (), (("b", -1), ("a", 1), ("c", 1)), (("a", 2), ("b", 3), ("c", -1), ("a", 1))):
            for act in OF_SCRIPTS:
                self.called(act, {"field": FIELD, "deeds": deeds})
            for act in OF_ROWS:
                self.called(act, {"field": FIELD, "row": units_of(deeds)})
            self.called(writing_at, {"field": FIELD, "deeds": deeds, "number": 0})

    def test_kinds_of_values(self):
        self.assertIs(many_writings(FIELD, GOOD).__class__, int)
        self.assertIs(all_writings(FIELD, GOOD).__class__, tuple)
        self.assertTrue(all(row.__class__ is tuple and unit.__class__ is tuple for row in all_writings(FIELD, GOOD) for unit in row))
        self.assertIs(writing_at(FIELD, GOOD, 0).__class__, tuple)
        self.assertIs(is_writing(FIELD, ()), True)
        self.assertIs(is_writing(FIELD, (("a", 1), ("a", -1))), False)
        self.assertIs(writing_number(FIELD, (("a", 1), ("a", -1))), None)
        self.assertIs(writing_number(FIELD, (("a", 1),)).__class__, int)


class SmallTests(CallCase):
    def test_example(self):
        deeds = (("b", -1), ("a", 1), ("c", 1))
        told = ((("a", 1), ("b", -1), ("c", 1)), (("b", -1), ("a", 1), ("c", 1)))
        self.assertEqual(all_writings(FIELD, deeds), told)
        self.assertEqual([writing_at(FIELD, deeds, number) for number in (0, 1)], list(told))
        self.assertEqual([writing_number(FIELD, row) for row in told], [0, 1])

    def test_empty(self):
        for deeds in ((), (("a", 1), ("b", 2), ("a", -1), ("b", -2)), (("a", MOST), ("a", -MOST))):
            self.assertEqual(many_writings(FIELD, deeds), 1)
            self.assertEqual(all_writings(FIELD, deeds), ((),))
            self.assertEqual(writing_at(FIELD, deeds, 0), ())
            self.refused(lambda: writing_at(FIELD, deeds, 1), BadNumber, 1)
        self.assertEqual(writing_number(FIELD, ()), 0)

    def test_all_rows_of_units(self):
        """A slow search of all rows of as few units as are alike to a script."""
        for field in fields_of(ABC):
            rows = [row for many in range(5) for row in product([(name, sign) for name in ABC for sign in (-1, 1)], repeat=many)]
            shortest, writings = {}, {}
            for row in rows:
                pile = least_of(field, row)
                shortest.setdefault(pile, len(row))
                if len(row) == shortest[pile]:
                    writings.setdefault(pile, []).append(row)
            for row in rows[::7]:
                pile = least_of(field, row)
                told = writings[pile]
                self.assertIs(is_writing(field, row), row in told)
                self.assertEqual(writing_number(field, row), told.index(row) if row in told else None, (field, row))
                self.assertEqual(all_writings(field, row), tuple(told))
                self.assertEqual(many_writings(field, row), len(told))

    def test_by_words(self):
        for field, script in small_scripts():
            rows = sorted(rows_of(field, script))
            self.assertEqual(all_writings(field, script), tuple(rows), (field, script))
            self.assertEqual(many_writings(field, script), len(rows))
            for number, row in enumerate(rows):
                self.assertEqual(writing_at(field, script, number), row)
                self.assertEqual(writing_number(field, row), number)
                self.assertIs(is_writing(field, row), True)
            self.refused(lambda: writing_at(field, script, len(rows)), BadNumber, len(rows))
            self.refused(lambda: writing_at(field, script, -1), BadNumber, -1)

    def test_rows_that_are_no_writings(self):
        for field, script in small_scripts():
            for row in (units_of(script), units_of(script) + units_of(script[:1]), units_of(script) + taken_back_of(units_of(script)[:1])):
                told = len(row) == length_by(least_of(field, row))
                self.assertIs(is_writing(field, row), told, (field, row))
                self.assertIs(writing_number(field, row) is not None, told)


class GreatTests(CallCase):
    def test_length_200_and_more(self):
        for deeds, many in (((("a", 200),), 1), ((("a", -150), ("c", 50)), 1), ((("a", 100), ("b", -100)), comb(200, 100)), ((("a", 30), ("c", 1), ("a", 60)) * 2 + (("a", 18),), 1),
                            ((("a", MOST), ("a", 200 - MOST)), 1), ((("a", MOST), ("b", 100), ("a", 100 - MOST)), comb(200, 100))):
            self.assertEqual(many_writings(FIELD, deeds), many)
            row = writing_at(FIELD, deeds, many - 1)
            self.assertEqual(len(row), 200)
            self.assertIs(is_writing(FIELD, row), True)
            self.assertEqual(writing_number(FIELD, row), many - 1)
            if many == 1:
                self.assertEqual(all_writings(FIELD, deeds), (row,))
        for deeds in ((("a", 201),), (("a", -201),), (("a", 150), ("c", -51)), (("a", MOST),), (("a", MOST),) * 60, (("a", 100), ("b", 101))):
            for act in OF_SCRIPTS:
                self.refused(lambda: act(FIELD, deeds), TooGreat, 200)
            self.refused(lambda: writing_at(FIELD, deeds, 0), TooGreat, 200)

    def test_200_ahead_of_20000(self):
        for act in OF_SCRIPTS:
            self.refused(lambda: act(LOOSE, (("a", 67), ("b", 67), ("c", 67))), TooGreat, 200)
            self.refused(lambda: act(LOOSE, (("a", 67), ("b", 67), ("c", 66))), TooGreat, 20000)

    def test_20000_lower_parts_and_more(self):
        many = of_three(19, 24, 39)
        self.assertEqual(many_writings(LOOSE, FULL), many)
        self.assertEqual(writing_at(LOOSE, FULL, 0), units_of(FULL))
        self.assertEqual(writing_at(LOOSE, FULL, many - 1), units_of(FULL[::-1]))
        self.assertEqual(writing_number(LOOSE, units_of(FULL[::-1])), many - 1)
        self.refused(lambda: writing_at(LOOSE, FULL, many), BadNumber, many)
        self.refused(lambda: all_writings(LOOSE, FULL), TooGreat, 1000)
        for act in OF_SCRIPTS:
            self.refused(lambda: act(LOOSE, OVER), TooGreat, 20000)
        self.refused(lambda: writing_at(LOOSE, OVER, 0), TooGreat, 20000)
        # Of a row, 20,000 is a bound only for the number of one that is a writing.
        row = units_of(OVER)
        self.refused(lambda: writing_number(LOOSE, row), TooGreat, 20000)
        self.assertIs(is_writing(LOOSE, row), True)
        for wrong in (row + (("a", -1),), (("c", -1),) + row, (("b", 1), ("b", -1)) + row):
            self.assertIsNone(writing_number(LOOSE, wrong))
            self.assertIs(is_writing(LOOSE, wrong), False)

    def test_lower_parts_of_whole_units(self):
        """As many as 6 names can have: 6 pieces of 4 units have 5 ** 6 lower parts, one of 5 and others of 4 have 18,750."""
        self.assertEqual(many_writings(SIX, tuple((name, 4) for name in "abcdef")), factorial(24) // factorial(4) ** 6)
        self.assertEqual(many_writings(SIX, (("a", -5),) + tuple((name, 4) for name in "bcdef")), factorial(25) // factorial(5) // factorial(4) ** 5)
        self.refused(lambda: many_writings(SIX, (("a", 5), ("b", 5)) + tuple((name, 4) for name in "cdef")), TooGreat, 20000)

    def test_1000_writings_and_more(self):
        ten = (("a", 2), ("b", 3))
        deeds = ten + (("c", 1),) + ten + (("c", -2),) + ten
        rows = all_writings(FIELD, deeds)
        self.assertEqual((many_writings(FIELD, deeds), len(rows)), (1000, 1000))
        self.assertEqual(rows, tuple(sorted(rows_of(FIELD, deeds))))
        for deeds in ((("a", 4), ("b", 10)), (("a", 1), ("b", 6), ("c", 1), ("a", 1), ("b", 10), ("c", 1), ("a", 1), ("b", 12))):
            self.assertEqual(many_writings(FIELD, deeds), 1001)
            self.refused(lambda: all_writings(FIELD, deeds), TooGreat, 1000)
            self.assertEqual(writing_number(FIELD, writing_at(FIELD, deeds, 1000)), 1000)

    def test_numbers_of_many_writings(self):
        deeds = (("a", 9), ("d", -8), ("c", 3), ("b", 5), ("a", -1), ("d", 3), ("c", 6))
        many = many_writings(PATH, deeds)
        self.assertGreater(many, 10 ** 6)
        rows = []
        for number in sorted({0, 1, many // 7, many // 2, many // 2 + 1, many - 2, many - 1}):
            row = writing_at(PATH, deeds, number)
            self.assertEqual(writing_number(PATH, row), number)
            self.assertTrue(alike(PATH, row, deeds))
            self.assertEqual(len(row), length_by(least_of(PATH, deeds)))
            rows.append(row)
        self.assertEqual(rows, sorted(set(rows)))
        for number in (many, many + 1, many * 2, -1, -many, True, False, None, "0"):
            self.refused(lambda: writing_at(PATH, deeds, number), BadNumber, number)

    def test_rows_of_200(self):
        row = (("a", 1), ("b", -1)) * 100
        self.assertIs(is_writing(FIELD, row), True)
        self.assertEqual(writing_at(FIELD, (("a", 100), ("b", -100)), writing_number(FIELD, row)), row)
        self.assertIs(is_writing(TIGHT, row), True)
        self.assertEqual(writing_number(TIGHT, row), 0)
        self.assertIsNone(writing_number(FIELD, row[:-1] + (("a", -1),)))
        for act in OF_ROWS:
            self.refused(lambda: act(FIELD, row + (("a", 1),)), BadScript, None)

    def test_60_steps(self):
        deeds = (("a", 1), ("b", 1), ("c", 1)) * 20
        self.assertEqual(many_writings(FIELD, deeds), 2 ** 20)
        self.assertEqual(writing_at(FIELD, deeds, 2 ** 20 - 1), (("b", 1), ("a", 1), ("c", 1)) * 20)
        self.assertEqual(all_writings(TIGHT, deeds), (deeds,))


if __name__ == "__main__":
    unittest.main()
