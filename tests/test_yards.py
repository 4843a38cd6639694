"""[30], [31] and deedpiles/yards.py."""

import unittest
from itertools import permutations, product

from by_words import STRANGE, Drawing, fields_of, least_of, scripts_of, taken_back_of, units_of
from checks import ABC, FIELD, FIELDS, GOOD, MOST, SCRIPTS, CallCase
from deedpiles.errors import BadSpot, BadYard, TooGreat
from deedpiles.yards import do_alike_in, led, need_yard, yard_of

TIGHT = (ABC, ())
LOOSE = (ABC, (("a", "b"), ("a", "c"), ("b", "c")))
PATH = (("a", "b", "c", "d"), (("a", "c"), ("a", "d"), ("b", "d")))
SQUARE = (("a", "b", "c", "d"), (("a", "c"), ("a", "d"), ("b", "c"), ("b", "d")))
SINGLE = (("a",), ())
FIVE = ((1, 2, 3, 4, 0), (2, 3, 4, 0, 1), (0, 1, 2, 4, 3))
STAY = ((0,), (0,), (0,))


def turned(many):
    """The row that leads each spot to the next one, the last one to 0."""
    return tuple(range(1, many)) + (0,)


def led_slowly(field, yard, deeds, spot):
    rows = dict(zip(field[0], yard))
    for name, sign in units_of(deeds):
        spot = rows[name][spot] if sign > 0 else rows[name].index(spot)
    return spot


def wrong_yards():
    """Values that are no yard of FIELD, each with the error and its part."""
    form = [value for value in STRANGE if not (isinstance(value, tuple) and len(value) == 3)]
    form += [(), FIVE[:2], FIVE + FIVE[:1], list(FIVE), ((), (), ()), ([0], (0,), (0,)), (None, FIVE[1], FIVE[2]), ("ab", "ab", "ab")]
    form += [(tuple(range(2001)),) * 3, (tuple(range(2001)), None, None), ((), None, None), (5, (0,), (0,))]
    turn = [((0,), (0,), [0]), ((0,), (0,), ()), ((0,), None, (0,)), ((0,), (0,), None), ((0,), (0,), (0, 1)), ((0, 1), (0, 0), (0, 1)), ((0, 1), (1, 2), (0, 1))]
    turn += [((0, 1), (0, 1), (0, -1)), ((0, 1), (0, 1), (0, True)), ((False,), (0,), (0,)), ((0, 0), (0, 1), (0, 1)), ((1,), (0,), (0,))]
    turn += [((0, 1), (1, "0"), (0, 1)), ((0, 1), (0, None), (0, 1)), ((0, 1), (0, [1]), (0, 1)), (((0,), 1), (0, 1), (0, 1)), ((0, 1), {0: 1}, (0, 1))]
    turn += [((0,), (0,), (value,)) for value in STRANGE if not (value.__class__ is int and value == 0)]
    # Rows that are turns, of names that do not change places; and such of which a row that is none stands behind.
    change = [((1, 0, 2), (0, 2, 1), (0, 1, 2)), ((1, 2, 3, 0), (1, 0, 2, 3), (0, 1, 2, 3))]
    turn += [yard[:2] + ((0, 0, 0),) for yard in change[:1]]
    return [(value, BadYard, part) for part, values in (("form", form), ("turn", turn), ("change", change)) for value in values]


WRONG_SPOTS = [(value, BadSpot, value) for value in STRANGE + (5, 6, -1, -5, 10 ** 999, -10 ** 999, (0,), "0")
               if not (value.__class__ is int and 0 <= value < 5)]


class CallTests(CallCase):
    def test_refused(self):
        wrong = {"field": FIELDS, "yard": wrong_yards()}
        good = {"field": FIELD, "yard": FIVE}
        self.refuses(need_yard, good, wrong)
        self.refuses(led, {**good, "deeds": GOOD, "spot": 4}, {**wrong, "deeds": SCRIPTS, "spot": WRONG_SPOTS})
        self.refuses(do_alike_in, {**good, "one": GOOD, "other": GOOD}, {**wrong, "one": SCRIPTS, "other": SCRIPTS})
        self.refuses(yard_of, {"field": FIELD, "deeds": GOOD}, {"field": FIELDS, "deeds": SCRIPTS})

    def test_called(self):
        good = {"field": FIELD, "yard": FIVE}
        self.assertIs(self.called(need_yard, good), FIVE)
        self.assertEqual(self.called(led, {**good, "deeds": (("a", 1), ("b", 2), ("c", 1)), "spot": 3}), 4)
        self.assertIs(self.called(do_alike_in, {**good, "one": (("a", 2),), "other": (("b", 1),)}), True)
        self.assertIs(self.called(do_alike_in, {**good, "one": (("a", 1),), "other": (("b", 1),)}), False)
        for deeds in (GOOD, (("c", 6),), ()):
            self.called(yard_of, {"field": FIELD, "deeds": deeds})


class NeedYardTests(CallCase):
    def test_yards(self):
        many = tuple(range(2000))
        for field, yard in ((FIELD, FIVE), (FIELD, STAY), (TIGHT, ((1, 0, 2), (0, 2, 1), (0, 1, 2))), (FIELD, (many,) * 3), (SINGLE, ((0,),)),
                            (FIELD, (turned(2000), turned(2000), many[::-1])), (SINGLE, (turned(2000),))):
            self.assertIs(need_yard(field, yard), yard)

    def test_one_spot_more(self):
        self.refused(lambda: need_yard(SINGLE, (turned(2001),)), BadYard, "form")
        self.refused(lambda: need_yard(SINGLE, (tuple(range(2001)),)), BadYard, "form")
        self.refused(lambda: need_yard(SINGLE, ((),)), BadYard, "form")

    def test_all_small_rows(self):
        rows = list(product((0, 1, 2), repeat=3))
        turns = set(permutations((0, 1, 2)))
        for one, other in product(rows, rows):
            for field in (FIELD, TIGHT):
                yard = (one, other, (0, 2, 1))
                together = [one[spot] for spot in other] == [other[spot] for spot in one]
                if one not in turns or other not in turns:
                    self.refused(lambda: need_yard(field, yard), BadYard, "turn")
                elif field is FIELD and not together:
                    self.refused(lambda: need_yard(field, yard), BadYard, "change")
                else:
                    self.assertIs(need_yard(field, yard), yard)

    def test_each_pair_has_to_change_places(self):
        stay, one, other = (0, 1, 2), (1, 0, 2), (0, 2, 1)
        for rows in ((one, other, stay), (one, stay, other), (stay, one, other)):
            self.refused(lambda: need_yard(LOOSE, rows), BadYard, "change")
        self.assertIs(need_yard(LOOSE, (one, one, stay)).__class__, tuple)


class LedTests(CallCase):
    def test_step_by_step(self):
        for deeds in [()] + [script for many in (1, 2, 3) for script in scripts_of(ABC, (1, -1, 2, -3, 7), many, (1, 1, 29)[many - 1])]:
            for spot in range(5):
                self.assertEqual(led(FIELD, FIVE, deeds, spot), led_slowly(FIELD, FIVE, deeds, spot))
                self.assertEqual(led(FIELD, FIVE, taken_back_of(deeds), led(FIELD, FIVE, deeds, spot)), spot)

    def test_greatest_times(self):
        for times in (MOST, -MOST, MOST - 1):
            for many in (1, 7, 2000):
                yard = (turned(many),)
                for spot in {0, many // 2, many - 1}:
                    self.assertEqual(led(SINGLE, yard, (("a", times),), spot), (spot + times) % many)
                    self.assertEqual(led(SINGLE, yard, (("a", times),) * 60, spot), (spot + 60 * times) % many)

    def test_the_first_and_the_last_spot(self):
        self.assertEqual([led(FIELD, FIVE, (), spot) for spot in range(5)], [0, 1, 2, 3, 4])
        self.assertEqual(led(FIELD, STAY, GOOD, 0), 0)
        self.refused(lambda: led(FIELD, STAY, GOOD, 1), BadSpot, 1)
        self.refused(lambda: led(SINGLE, (turned(2000),), (), 2000), BadSpot, 2000)
        self.assertEqual(led(SINGLE, (turned(2000),), (("a", -1),), 0), 1999)

    def test_do_alike_in(self):
        scripts = [()] + [script for many in (1, 2) for script in scripts_of(ABC, (1, -1, 2, 5), many, (1, 7)[many - 1])]
        for one, other in product(scripts, scripts):
            ways = [[led_slowly(FIELD, FIVE, deeds, spot) for spot in range(5)] for deeds in (one, other)]
            self.assertIs(do_alike_in(FIELD, FIVE, one, other), ways[0] == ways[1])
        self.assertIs(do_alike_in(FIELD, STAY, GOOD, ()), True)
        self.assertIs(do_alike_in(FIELD, FIVE, (("a", MOST),), ()), True)
        self.assertIs(do_alike_in(FIELD, FIVE, (("a", MOST),), (("a", 1),)), False)
        # Just one pair of the 2,000 spots is led to another one.
        late = (tuple(range(1998)) + (1999, 1998),)
        self.assertIs(do_alike_in(SINGLE, late, (("a", 1),), (("a", 2),)), False)
        self.assertIs(do_alike_in(SINGLE, late, (("a", 1),), (("a", 3),)), True)


class YardOfTests(CallCase):
    def check_yard(self, field, script):
        yard = yard_of(field, script)
        self.assertIs(need_yard(field, yard), yard)
        self.assertTrue(Drawing(field, least_of(field, script)).is_told_by(yard), (field, script))
        self.assertNotEqual(led(field, yard, script, 0), 0)

    def test_empty_piles(self):
        for script in ((), (("a", 1), ("b", 1), ("a", -1), ("b", -1)), (("c", MOST), ("c", -MOST))):
            self.assertIsNone(yard_of(FIELD, script))

    def test_some(self):
        self.assertEqual(yard_of(SINGLE, (("a", 1),)), ((1, 0),))
        self.assertEqual(yard_of(SINGLE, (("a", 2),)), ((1, 2, 0),))
        self.assertEqual(yard_of(SINGLE, (("a", -1),)), ((1, 0),))
        self.assertEqual(yard_of(FIELD, (("b", 1),)), ((0, 1), (1, 0), (0, 1)))
        self.assertEqual([len(row) for row in yard_of(FIELD, (("a", 1), ("b", 1)))], [4, 4, 4])
        self.assertEqual([len(row) for row in yard_of(TIGHT, (("a", 1), ("b", 1)))], [3, 3, 3])

    def test_by_words(self):
        for number, field in enumerate(fields_of(ABC)):
            for many in range(1, 6):
                for script in scripts_of(ABC, (1, -2, 6), many, (1, 1, 11, 97, 1009)[many - 1] + number):
                    if least_of(field, script):
                        self.check_yard(field, script)
        for number, field in enumerate(fields_of(PATH[0])):
            for script in scripts_of(PATH[0], (1, -2), 6, 60013 + number):
                if least_of(field, script):
                    self.check_yard(field, script)

    def test_moduli(self):
        for all_times, modulus in (((1,), 2), ((2,), 3), ((3,), 2), ((6,), 4), ((12,), 5), ((60,), 7), ((-60,), 7), ((6, 4), 5),
                                   ((2, 3), 4), ((1, 2), 3), ((420, 8), 9), ((MOST,), 3), ((6 * 10 ** 29,), 7)):
            script = tuple(step for times in all_times for step in (("a", times), ("b", 1)))
            spots = len(all_times) * (modulus - 1) + len(all_times) + 1
            self.assertEqual([len(row) for row in yard_of(TIGHT, script)], [spots] * 3, all_times)
            self.check_yard(TIGHT, script)

    def test_sums_greater_than_times(self):
        self.assertEqual(len(yard_of(SINGLE, (("a", 3 * 10 ** 29), ("a", MOST)))[0]), 3)
        self.assertEqual(len(yard_of(SINGLE, (("a", MOST),) * 42)[0]), 9)

    def test_2000_spots_and_more(self):
        ladder = tuple(("ab"[at % 2], 12) for at in range(31))
        side = tuple(("cd"[at % 2], 1) for at in range(15))
        self.check_yard(SQUARE, ladder + side)
        self.assertEqual([len(row) for row in yard_of(SQUARE, side + ladder)], [2000] * 4)
        self.refused(lambda: yard_of(SQUARE, ladder + side + (("d", 1),)), TooGreat, 2000)
        threes = tuple(("ab"[at % 2], 2) for at in range(43)) + tuple(("cd"[at % 2], -2) for at in range(11))
        # It has 87 * 23 spots.
        self.refused(lambda: yard_of(SQUARE, threes), TooGreat, 2000)
        self.check_yard(SQUARE, threes[:-1])
        loose = [tuple((name, times) for name, times in zip(ABC, row)) for row in ((2520, 27720, 27720), (-27720, 27720, 27720))]
        self.assertEqual([len(row) for row in yard_of(LOOSE, loose[0])], [11 * 13 * 13] * 3)
        self.refused(lambda: yard_of(LOOSE, loose[1]), TooGreat, 2000)

    def test_longest_scripts(self):
        deeds = (("a", 1), ("c", 2), ("b", -1)) * 20
        self.assertEqual(len(yard_of(TIGHT, deeds)[0]), 81)
        self.check_yard(TIGHT, deeds)


if __name__ == "__main__":
    unittest.main()
