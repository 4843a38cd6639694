"""[42], [43] and deedpiles/powers.py."""

import unittest
from itertools import product
from math import gcd

from by_words import STRANGE, alike, fields_of, least_of, length_by, scripts_of, some_piles, taken_back_of
from checks import ABC, FIELD, FIELDS, GOOD, MOST, SCRIPTS, CallCase
from deedpiles.errors import BadNumber, TooGreat
from deedpiles.fields import touch_table
from deedpiles.piles import piled
from deedpiles.powers import are_powers_alike, greatest_root, nth_root, power, power_length, some_times

TIGHT = (ABC, ())
LOOSE = (ABC, (("a", "b"), ("a", "c"), ("b", "c")))
PATH = (("a", "b", "c", "d"), (("a", "c"), ("a", "d"), ("b", "d")))
BEYOND = (MOST + 1, -MOST - 1, 10 ** 999, -10 ** 999, None, True, False, "1", (1,), [1], {1: 1})


def wrong_numbers(least):
    """Values that are no integer from a least one to 10 ** 30."""
    values = [value for value in STRANGE + BEYOND + (least - 1,) if value.__class__ is not int or not least <= value <= MOST]
    return [(value, BadNumber, value) for value in values]


def done(script, number):
    """The steps of a script so often, one behind the other, or what takes them back so often."""
    return script * number if number >= 0 else taken_back_of(script) * -number


def longer_scripts():
    """Scripts of 8 to 13 steps of four names, of which many are another one some times, with others around."""
    for number, field in enumerate(fields_of(PATH[0])):
        for script in scripts_of(PATH[0], (1, -1), 4, 409 + number):
            for more in ((), script[:1], (("b", 2), ("a", 1))):
                yield field, more, script


class CallTests(CallCase):
    def test_refused(self):
        of_one, scripts = {"field": FIELD, "deeds": GOOD}, {"field": FIELDS, "deeds": SCRIPTS}
        self.refuses(greatest_root, of_one, scripts)
        self.refuses(nth_root, {**of_one, "number": 1}, {**scripts, "number": wrong_numbers(1)})
        for act in (power, power_length):
            self.refuses(act, {**of_one, "number": 1}, {**scripts, "number": wrong_numbers(-MOST)})
        self.refuses(some_times, {"field": FIELD, "one": GOOD, "other": GOOD}, {"field": FIELDS, "one": SCRIPTS, "other": SCRIPTS})
        wrong = {"field": FIELDS, "one": SCRIPTS, "number": wrong_numbers(-MOST), "other": SCRIPTS, "times": wrong_numbers(-MOST)}
        self.refuses(are_powers_alike, {"field": FIELD, "one": GOOD, "number": 1, "other": (), "times": -1}, wrong)

    def test_called(self):
        for deeds in (GOOD, (), (("a", 4), ("b", -6)), (("a", 4), ("c", -6)) * 4):
            self.called(greatest_root, {"field": FIELD, "deeds": deeds})
            for number in (1, 2, 3, MOST):
                self.called(nth_root, {"field": FIELD, "deeds": deeds, "number": number})
                self.called(power_length, {"field": FIELD, "deeds": deeds, "number": -number})
            self.called(power, {"field": FIELD, "deeds": deeds, "number": 7})
            self.called(some_times, {"field": FIELD, "one": deeds, "other": GOOD})
            self.called(are_powers_alike, {"field": FIELD, "one": deeds, "number": 2, "other": GOOD, "times": -3})

    def test_numbers_at_their_bounds(self):
        deeds = (("a", 2),)
        for number in (MOST, -MOST, MOST - 1, 0, 1, -1):
            self.assertEqual(power(FIELD, deeds, number), (("a", 2 * number),) if number else ())
            self.assertEqual(power_length(FIELD, deeds, number), 2 * abs(number))
            self.assertIs(are_powers_alike(FIELD, deeds, number, deeds, number), True)
        self.assertIsNone(nth_root(FIELD, deeds, MOST))
        self.assertEqual(nth_root(FIELD, (("a", MOST), ("b", -MOST)), MOST), (("a", 1), ("b", -1)))


class RootTests(unittest.TestCase):
    def test_some(self):
        for field, deeds, told in (
                (FIELD, (), ((), 0)), (FIELD, (("a", 1), ("b", 1), ("a", -1), ("b", -1)), ((), 0)), (FIELD, (("a", 6),), ((("a", 1),), 6)),
                (FIELD, (("b", -6), ("a", 4)), ((("a", 2), ("b", -3)), 2)), (TIGHT, (("b", -6), ("a", 4)), ((("b", -6), ("a", 4)), 1)),
                (FIELD, (("c", 1), ("a", 4), ("c", -1)), ((("c", 1), ("a", 1), ("c", -1)), 4)),
                (FIELD, (("a", 2), ("c", 1)) * 6, ((("a", 2), ("c", 1)), 6)), (FIELD, (("a", 2), ("c", 1)) * 3 + (("a", 5),), None),
                (FIELD, (("a", MOST), ("b", 10 ** 29)), ((("a", 10), ("b", 1)), 10 ** 29)), (FIELD, (("a", MOST),) * 60, ((("a", 1),), 60 * MOST))):
            if told is not None:
                self.assertEqual(greatest_root(field, deeds), told)
        self.assertEqual(greatest_root(FIELD, (("a", 2), ("c", 1)) * 3 + (("a", 5),))[1], 1)

    def test_by_words(self):
        """All roots of all scripts of little LENGTH, from all powers of such."""
        for field in fields_of(ABC):
            piles = some_piles(field, 4)
            powers = {}
            for pile, number in product(piles, range(1, 6)):
                if number == 1 or len(pile) * (number - 1) <= 8:
                    powers.setdefault((least_of(field, pile * number), number), []).append(pile)
            for pile in piles:
                greatest = max((number for number in range(1, 6) if (pile, number) in powers))
                if pile:
                    self.assertEqual([greatest_root(field, pile)], [(root, greatest) for root in powers[pile, greatest]])
                for number in range(1, 6):
                    roots = powers.get((pile, number), [None])
                    self.assertEqual([nth_root(field, pile, number)], roots, (field, pile, number))

    def test_longer(self):
        for field, more, script in longer_scripts():
            for number in (1, 2, 3):
                deeds = more + script * number + taken_back_of(more)
                root, many = told = greatest_root(field, deeds)
                self.assertIs(told.__class__, tuple)
                self.assertEqual(root, least_of(field, root))
                self.assertTrue(alike(field, root * min(many, 100), deeds))
                self.assertEqual(many % number, 0)
                for parts in (1, 2, 3, 4, 5, 6):
                    told = nth_root(field, deeds, parts)
                    self.assertIs(told is None, many % parts != 0)
                    if told is not None:
                        self.assertEqual(told, least_of(field, told))
                        self.assertTrue(alike(field, told * parts, deeds))

    def test_numbers(self):
        self.assertEqual([nth_root(FIELD, (), number) for number in (1, 7, MOST)], [(), (), ()])
        self.assertEqual(nth_root(FIELD, GOOD, 1), least_of(FIELD, GOOD))
        deeds = (("a", 12), ("b", -18))
        self.assertEqual([nth_root(FIELD, deeds, number) for number in range(1, 8)],
                         [deeds, (("a", 6), ("b", -9)), (("a", 4), ("b", -6)), None, None, (("a", 2), ("b", -3)), None])


class PowerTests(CallCase):
    def test_step_by_step(self):
        for number, field in enumerate(fields_of(ABC)):
            for many in range(5):
                for script in scripts_of(ABC, (1, -1, 2), many, (1, 1, 1, 11, 127)[many] + number):
                    for times in (-4, -2, -1, 0, 1, 2, 3, 7):
                        told = least_of(field, done(script, times))
                        self.assertEqual(power(field, script, times), told, (field, script, times))
                        self.assertEqual(power_length(field, script, times), length_by(told))

    def test_longer(self):
        for field, more, script in longer_scripts():
            deeds = more + script + taken_back_of(more)[1:]
            for times in (-3, 1, 2, 5):
                told = least_of(field, done(deeds, times))
                self.assertEqual(power(field, deeds, times), told)
                self.assertEqual(power_length(field, deeds, times), length_by(told))

    def test_great_numbers(self):
        self.assertEqual(power(FIELD, (("c", 1), ("a", MOST), ("c", -1)), -MOST), (("c", 1), ("a", -MOST ** 2), ("c", -1)))
        self.assertEqual(power(FIELD, (("a", 1), ("b", MOST)), MOST), (("a", MOST), ("b", MOST ** 2)))
        self.assertEqual(power_length(FIELD, (("a", 1), ("c", 2)), -MOST), 3 * MOST)
        self.assertEqual(power_length(FIELD, (("a", 1), ("c", 2), ("a", 3)), MOST), 6 * MOST)
        self.assertEqual(power_length(FIELD, (("a", -1), ("c", 2), ("a", 3)), MOST), 6 + (MOST - 1) * 4)
        self.assertEqual(power_length(FIELD, (("a", MOST),) * 60, MOST), 60 * MOST ** 2)
        self.assertEqual(power_length(FIELD, (), MOST), 0)
        self.assertEqual(power(FIELD, (), -MOST), ())
        self.assertEqual(power(FIELD, (("a", 1), ("a", -1)), MOST), ())

    def test_400_pieces_and_more(self):
        two, five = (("a", 1), ("c", 1)), (("a", 1), ("c", 1), ("b", 1), ("c", -1), ("a", 3))
        self.assertEqual(power(FIELD, two, 200), two * 200)
        self.assertEqual(power(FIELD, two, -200), taken_back_of(two) * 200)
        for number in (201, -201, 300, 519, 10 ** 6, MOST, -MOST):
            self.refused(lambda: power(FIELD, two, number), TooGreat, 400)
            self.assertEqual(power_length(FIELD, two, number), 2 * abs(number))
        # Of these, four pieces go round, and one of them is parted at both ends.
        self.assertEqual(len(power(FIELD, five, 99)), 397)
        self.refused(lambda: power(FIELD, five, 100), TooGreat, 400)
        self.assertEqual(power(FIELD, five, 99), five[:1] + (five[1:4] + (("a", 4),)) * 98 + five[1:])

    def test_pieces_ahead(self):
        """What goes ahead, and is taken back behind, counts among the 400 pieces, or takes some of them away."""
        for ahead in ((), (("b", 1), ("c", 1)) * 10, (("b", 1), ("c", -1), ("a", 1)), (("c", 1),), (("a", 1),), (("b", 1),) + (("a", -1),), (("c", -1), ("a", -1))):
            for inner in ((("a", 1), ("c", 1)), (("a", 1), ("c", 2), ("b", 1), ("a", 2)), (("a", 5), ("b", 1))):
                deeds = ahead + inner + taken_back_of(ahead)
                for number in range(60, 210):
                    told = piled(touch_table(FIELD), done(deeds, number))
                    if len(told) > 400:
                        self.refused(lambda: power(FIELD, deeds, number), TooGreat, 400)
                    else:
                        self.assertEqual(power(FIELD, deeds, number), told)


class SomeTimesTests(unittest.TestCase):
    def test_by_words(self):
        for field in fields_of(ABC):
            scripts = [()] + [script for many in (1, 2, 3) for script in scripts_of(ABC, (1, -2), many, (1, 3, 37)[many - 1])]
            for one, other in product(scripts, scripts):
                pairs = [(some, more) for some, more in product(range(1, 7), repeat=2) if alike(field, one * some, other * more)]
                self.assertEqual(some_times(field, one, other), min(pairs, default=None), (field, one, other))

    def test_some(self):
        for one, other, told in (
                ((), (), (1, 1)), ((), (("a", 1),), None), ((("a", 1),), (), None), ((("a", 1),), (("a", -1),), None), ((("a", 6),), (("a", 4),), (2, 3)),
                ((("a", 4), ("b", 6)), (("a", 6), ("b", 9)), (3, 2)), ((("a", 4), ("b", 6)), (("a", 6), ("b", 6)), None),
                ((("a", MOST),), (("a", 1),), (1, MOST)), ((("a", MOST),) * 60, (("a", MOST - 1),), ((MOST - 1) // gcd(60 * MOST, MOST - 1), 60 * MOST // gcd(60, MOST - 1))),
                ((("a", 1), ("c", 1)) * 4, (("a", 1), ("c", 1)) * 6, (3, 2)), ((("a", 1), ("c", 1)) * 4, (("c", 1), ("a", 1)) * 6, None),
                ((("a", 1), ("a", -1)), (("c", 1), ("c", -1)), (1, 1))):
            self.assertEqual(some_times(FIELD, one, other), told, (one, other))

    def test_longer(self):
        for field, more, script in longer_scripts():
            one, other = more + script * 2 + taken_back_of(more), more + script * 3 + taken_back_of(more)
            told = some_times(field, one, other)
            self.assertEqual(told, (1, 1) if alike(field, script, ()) else (3, 2))
            self.assertEqual(some_times(field, one, taken_back_of(other)), (1, 1) if alike(field, script, ()) else None)


class PowersAlikeTests(unittest.TestCase):
    def test_by_words(self):
        for field in fields_of(ABC):
            scripts = [()] + [script for many in (1, 2, 3) for script in scripts_of(ABC, (1, -2), many, (1, 3, 17)[many - 1])]
            for one, other in product(scripts, scripts):
                for number, times in ((0, 0), (0, 1), (-3, 0), (1, 1), (1, -1), (2, 1), (-1, 2), (-2, -4), (4, -2)):
                    told = alike(field, done(one, number), done(other, times))
                    self.assertIs(are_powers_alike(field, one, number, other, times), told, (field, one, number, other, times))

    def test_great_numbers(self):
        for one, number, other, times, told in (
                ((("a", 3),), MOST, (("a", 1),), MOST, False), ((("a", 10),), MOST // 10, (("a", 1),), MOST, True), ((("a", -10),), -MOST // 10, (("a", 1),), MOST, True),
                ((("a", 10),), -MOST // 10, (("a", 1),), MOST, False), ((("a", 1), ("c", 1)) * 5, MOST // 5, (("a", 1), ("c", 1)), MOST, True),
                ((("a", 1), ("c", 1)) * 5, MOST // 5 - 1, (("a", 1), ("c", 1)), MOST, False), ((("a", 1), ("c", 1)), -MOST, (("c", -1), ("a", -1)), MOST, True),
                ((), MOST, (), -MOST, True), ((), MOST, (("a", 1),), 0, True), ((), MOST, (("a", 1),), 1, False), (GOOD, 0, (), MOST, True), (GOOD, 0, GOOD, 0, True),
                ((("a", 2),), MOST, (("b", 2),), MOST, False), ((("a", 2), ("b", 1)), MOST, (("b", 1), ("a", 2)), MOST, True)):
            self.assertIs(are_powers_alike(FIELD, one, number, other, times), told, (one, number, other, times))
            self.assertIs(are_powers_alike(FIELD, other, times, one, number), told, (one, number, other, times))


if __name__ == "__main__":
    unittest.main()
