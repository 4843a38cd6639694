"""[61], [62] and deedpiles/middles.py."""

import unittest
from itertools import permutations, product

from by_words import alike, fields_of, least_of, length_by, scripts_of, some_piles, taken_back_of
from checks import ABC, FIELD, FIELDS, GOOD, MOST, SCRIPTS, CallCase
from deedpiles.middles import distance, is_between, middle_of

TIGHT = (ABC, ())
LOOSE = (ABC, (("a", "b"), ("a", "c"), ("b", "c")))
PATH = (("a", "b", "c", "d"), (("a", "c"), ("a", "d"), ("b", "d")))


def far_by(field, one, other):
    """The distance of two scripts."""
    return length_by(least_of(field, taken_back_of(one) + other))


def lies_between(field, one, other, far):
    return far_by(field, one, other) + far_by(field, other, far) == far_by(field, one, far)


def is_middle(field, pile, scripts):
    return all(lies_between(field, one, pile, far) for one, far in permutations(scripts, 2))


def triples_of_scripts(times, each):
    """Fields with three scripts, each with few of the triples, others for each."""
    for number, field in enumerate(fields_of(PATH[0])):
        scripts = [script for many in (1, 2, 3, 4) for script in scripts_of(PATH[0], times, many, (2, 11, 131, 1409)[many - 1] + number)] + [()]
        yield from ((field, scripts) for scripts in list(product(scripts, repeat=3))[number % each::each])


class CallTests(CallCase):
    def test_refused(self):
        self.refuses(distance, {"field": FIELD, "one": GOOD, "other": GOOD}, {"field": FIELDS, "one": SCRIPTS, "other": SCRIPTS})
        self.refuses(is_between, {"field": FIELD, "one": GOOD, "other": GOOD, "far": ()}, {"field": FIELDS, "one": SCRIPTS, "other": SCRIPTS, "far": SCRIPTS})
        self.refuses(middle_of, {"field": FIELD, "one": GOOD, "two": GOOD, "three": ()}, {"field": FIELDS, "one": SCRIPTS, "two": SCRIPTS, "three": SCRIPTS})

    def test_called(self):
        scripts = (GOOD, (), (("c", 1), ("a", 2)), (("b", -1), ("a", 2)))
        for one, other in product(scripts, repeat=2):
            self.called(distance, {"field": FIELD, "one": one, "other": other})
            for third in scripts:
                self.called(is_between, {"field": FIELD, "one": one, "other": other, "far": third})
                self.called(middle_of, {"field": FIELD, "one": one, "two": other, "three": third})

    def test_kinds_of_values(self):
        self.assertIs(distance(FIELD, (), ()).__class__, int)
        self.assertIs(is_between(FIELD, (), (), ()), True)
        self.assertIs(is_between(FIELD, (), GOOD, ()), False)
        self.assertIs(middle_of(FIELD, (), (), ()).__class__, tuple)


class DistanceTests(unittest.TestCase):
    def test_some(self):
        for field, one, other, told in (
                (FIELD, (), (), 0), (FIELD, (), GOOD, 5), (FIELD, GOOD, (), 5), (FIELD, GOOD, GOOD, 0), (FIELD, (("a", 5),), (("a", -3),), 8),
                (FIELD, (("a", 5), ("b", 2)), (("b", 1), ("a", 7)), 3), (TIGHT, (("a", 5), ("b", 2)), (("b", 1), ("a", 7)), 15),
                (FIELD, (("a", 5), ("c", 1)), (("a", 5), ("c", 3)), 2), (FIELD, (("c", 1), ("a", 5)), (("c", 3), ("a", 5)), 12),
                (FIELD, (("a", 1), ("a", -1)), (("c", 1), ("c", -1)), 0), (FIELD, (("a", MOST),) * 60, (("a", -MOST),) * 60, 120 * MOST),
                (LOOSE, (("a", MOST), ("b", 1)), (("b", MOST), ("a", -MOST)), 3 * MOST - 1)):
            self.assertEqual(distance(field, one, other), told, (one, other))
            self.assertEqual(distance(field, other, one), told, (one, other))

    def test_step_by_step(self):
        """By as many units as no less lead from the one to the other."""
        for field in fields_of(ABC):
            units = [(name, sign) for name in ABC for sign in (1, -1)]
            for one in some_piles(field, 2)[::4]:
                told = {least_of(field, one): 0}
                ring = list(told)
                for number in (1, 2, 3, 4):
                    ring = {least_of(field, pile + (unit,)) for pile in ring for unit in units} - set(told)
                    told.update(dict.fromkeys(ring, number))
                for other, number in list(told.items())[::13]:
                    self.assertEqual(distance(field, one, other), number, (field, one, other))

    def test_by_words(self):
        for field, (one, other, _) in triples_of_scripts((1, -2), 97):
            self.assertEqual(distance(field, one, other), far_by(field, one, other), (field, one, other))


class BetweenTests(unittest.TestCase):
    def test_some(self):
        for field, one, other, far, told in (
                (FIELD, (), (), (), True), (FIELD, (), (("a", 1),), (("a", 2),), True), (FIELD, (("a", 1),), (), (("a", 2),), False),
                (FIELD, (("a", -1),), (), (("a", 2),), True), (FIELD, (("a", 1),), (), (("b", 2),), True), (FIELD, (("a", 1),), (("a", 1), ("b", 1)), (("b", 2),), True),
                (TIGHT, (("a", 1),), (), (("b", 2),), True), (TIGHT, (("a", 1),), (("a", 1), ("b", 1)), (("b", 2),), False), (FIELD, GOOD, GOOD, (), True),
                (FIELD, (), GOOD, GOOD, True), (FIELD, GOOD, (), GOOD, False), (FIELD, (("c", 1), ("a", 1)), (("c", 1),), (("c", 1), ("b", 1)), True),
                (FIELD, (("c", 1), ("a", 1)), (("b", 1), ("a", 1), ("c", 1)), (("c", 1), ("b", 1)), False),
                (FIELD, (("a", -MOST),), (("a", MOST), ("a", -1)), (("a", MOST),), True), (FIELD, (("a", -MOST),), (("a", MOST), ("a", 1)), (("a", MOST),), False),
                (FIELD, (("a", MOST),) * 60, (("a", MOST),) * 59, (), True)):
            self.assertIs(is_between(field, one, other, far), told, (one, other, far))
            self.assertIs(is_between(field, far, other, one), told, (one, other, far))

    def test_by_words(self):
        some = 0
        for field, (one, other, far) in triples_of_scripts((1, -2), 97):
            told = lies_between(field, one, other, far)
            some += told
            self.assertIs(is_between(field, one, other, far), told, (field, one, other, far))
        self.assertGreater(some, 100)

    def test_small_piles(self):
        for field in fields_of(ABC):
            piles = some_piles(field, 2)
            for one, far in product(piles[::5], piles[1::7]):
                told = [pile for pile in piles if lies_between(field, one, pile, far)]
                self.assertEqual([pile for pile in piles if is_between(field, one, pile, far)], told)


class MiddleTests(unittest.TestCase):
    def test_some(self):
        for field, one, two, three, told in (
                (FIELD, (("a", 5), ("c", 1)), (("a", 3), ("b", 2)), (("b", 7), ("a", 9)), (("a", 5), ("b", 2))),
                (FIELD, (), (), (), ()), (FIELD, GOOD, GOOD, (), least_of(FIELD, GOOD)), (FIELD, GOOD, (), (), ()), (FIELD, (("a", 1),), (("a", 5),), (("a", 3),), (("a", 3),)),
                (FIELD, (("a", 1),), (("a", -5),), (("b", 3),), ()), (FIELD, (("a", 1), ("b", 2)), (("a", -5), ("b", 4)), (("b", 3), ("a", 7)), (("a", 1), ("b", 3))),
                (FIELD, (("c", 2),), (("c", 3), ("a", 1)), (("c", 5),), (("c", 3),)), (TIGHT, (("a", 2), ("b", 1)), (("a", 2), ("c", 1)), (("a", 3),), (("a", 2),)),
                (FIELD, (("a", MOST),) * 60, (("a", -MOST),) * 60, (("a", MOST),) * 2, (("a", 2 * MOST),)),
                (LOOSE, (("a", 1), ("b", 5), ("c", -3)), (("a", -1), ("b", 6)), (("c", -9), ("a", 7)), (("a", 1), ("b", 5), ("c", -3)))):
            for scripts in permutations((one, two, three)):
                self.assertEqual(middle_of(field, *scripts), told, (field, scripts))

    def test_the_only_one(self):
        """A slow search of small piles: just one least pile lies between each two."""
        for field in fields_of(ABC):
            piles = some_piles(field, 2)
            for scripts in list(product(piles, repeat=3))[::max(1, len(piles) ** 3 // 60)]:
                told = middle_of(field, *scripts)
                self.assertEqual([pile for pile in piles if is_middle(field, pile, scripts)], [told] if told in piles else [], (field, scripts))
                self.assertTrue(is_middle(field, told, scripts))

    def test_in_whatever_order(self):
        for field, scripts in triples_of_scripts((1, -2), 997):
            told = middle_of(field, *scripts)
            self.assertEqual(told, least_of(field, told))
            self.assertTrue(is_middle(field, told, scripts), (field, scripts))
            for others in permutations(scripts):
                self.assertEqual(middle_of(field, *others), told, (field, others))

    def test_two_alike(self):
        for field, (one, other, _) in triples_of_scripts((1, -2), 1999):
            for scripts in permutations((one, one[:1] + (("a", 1), ("a", -1)) + one[1:], other)):
                self.assertTrue(alike(field, middle_of(field, *scripts), one), (field, one, other))

    def test_60_steps(self):
        deeds = (("a", 1), ("c", 2), ("b", -1)) * 20
        for many in range(0, 61, 7):
            other = deeds[:many] + (("c", -1),) * (60 - many)
            last = least_of(TIGHT, deeds[:many] + (("a", 7),)) if many < 60 else deeds
            self.assertTrue(is_middle(TIGHT, middle_of(TIGHT, deeds, other, last[:60]), (deeds, other, last[:60])))
        self.assertEqual(middle_of(TIGHT, deeds, deeds[:30], deeds[:45]), deeds[:45])
        self.assertEqual(middle_of(TIGHT, deeds, taken_back_of(deeds), ()), ())
        self.assertEqual(distance(TIGHT, deeds, taken_back_of(deeds)), 160)


if __name__ == "__main__":
    unittest.main()
