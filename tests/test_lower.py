"""[22] and deedpiles/lower.py."""

import unittest
from itertools import product

from by_words import alike, fields_of, least_of, length_by, lower_parts, piles_above, scripts_of, taken_back_of
from checks import ABC, FIELD, FIELDS, GOOD, MOST, SCRIPTS, CallCase
from deedpiles.lower import common, is_lower, over_both

TIGHT = (ABC, ())
LOOSE = (ABC, (("a", "b"), ("a", "c"), ("b", "c")))
PATH = (("a", "b", "c", "d"), (("a", "c"), ("a", "d"), ("b", "d")))
ALL = (is_lower, common, over_both)


def pairs_of_scripts():
    """Fields with pairs of scripts of up to 4 steps, each with few of the pairs, others for each."""
    for number, field in enumerate(fields_of(ABC)):
        scripts = [()] + [script for many in (1, 2, 3, 4)
                          for script in scripts_of(ABC, (1, -1, 2), many, (1, 5, 53, 499)[many - 1] + number)]
        yield from ((field, one, other) for one, other in product(scripts, scripts))


def sharing_scripts():
    """Fields with pairs of scripts of which the second one begins with some of the first one, changed or not."""
    for number, field in enumerate(fields_of(PATH[0])):
        for script in scripts_of(PATH[0], (1, -1, 3), 5, 40009 + number):
            for many in range(5):
                yield field, script, script[:many] + script[4:] + script[:1]
                yield field, script[:many], script


class CallTests(CallCase):
    def test_refused(self):
        for act in ALL:
            self.refuses(act, {"field": FIELD, "one": GOOD, "other": GOOD},
                         {"field": FIELDS, "one": SCRIPTS, "other": SCRIPTS})

    def test_called(self):
        for act in ALL:
            for one, other in product([GOOD, (), (("b", 1),), (("a", 1),), (("c", 1), ("a", 1))], repeat=2):
                self.called(act, {"field": FIELD, "one": one, "other": other})

    def test_kinds_of_values(self):
        self.assertIs(is_lower(FIELD, (), ()), True)
        self.assertIs(is_lower(FIELD, GOOD, ()), False)
        for told in (common(FIELD, GOOD, GOOD), over_both(FIELD, GOOD, GOOD), common(FIELD, (), ()), over_both(FIELD, (), ())):
            self.assertIs(told.__class__, tuple)


class LowerTests(unittest.TestCase):
    def test_some(self):
        for field, one, other, told in (
                (FIELD, (), (), True), (FIELD, (), GOOD, True), (FIELD, GOOD, (), False), (FIELD, GOOD, GOOD, True),
                (FIELD, (("a", 2),), (("a", 3),), True), (FIELD, (("a", 3),), (("a", 2),), False),
                (FIELD, (("a", -1),), (("a", 3),), False), (FIELD, (("a", -1),), (("a", -3),), True),
                (FIELD, (("b", 1),), (("a", 1), ("b", 1)), True), (TIGHT, (("b", 1),), (("a", 1), ("b", 1)), False),
                (FIELD, (("c", 1),), (("a", 1), ("c", 1)), False), (FIELD, (("a", 1), ("a", -1)), (("c", 1),), True),
                (FIELD, (("a", 1), ("c", 1)), (("a", 2), ("c", 1)), False),
                (FIELD, (("a", MOST),), (("a", MOST),) * 60, True), (FIELD, (("a", MOST),) * 60, (("a", MOST),) * 59, False)):
            self.assertIs(is_lower(field, one, other), told, (one, other))

    def test_by_words(self):
        for field, one, other in pairs_of_scripts():
            self.assertIs(is_lower(field, one, other), least_of(field, one) in lower_parts(field, other), (field, one, other))

    def test_longest(self):
        deeds = (("a", 1), ("c", 2), ("b", -1)) * 20
        for many in range(61):
            self.assertIs(is_lower(TIGHT, deeds[:many], deeds), True)
            self.assertIs(is_lower(TIGHT, deeds, deeds[:many]), many == 60)


class CommonTests(unittest.TestCase):
    def test_some(self):
        for field, one, other, told in (
                (FIELD, (), (), ()), (FIELD, (), GOOD, ()), (FIELD, (("a", 5),), (("a", 3), ("c", 1)), (("a", 3),)),
                (FIELD, (("a", 5),), (("a", -3),), ()), (FIELD, (("a", -5),), (("a", -3),), (("a", -3),)),
                (FIELD, (("a", 1), ("b", 2)), (("b", 3), ("a", 4)), (("a", 1), ("b", 2))),
                (TIGHT, (("a", 1), ("b", 2)), (("b", 3), ("a", 4)), ()),
                (FIELD, (("a", 2), ("c", 1)), (("a", 1), ("c", 1)), (("a", 1),)),
                (FIELD, (("a", 1), ("c", 1)), (("a", 2), ("c", 1)), (("a", 1),)),
                (LOOSE, (("c", 2), ("a", 1)), (("a", 2), ("b", 1), ("c", 1)), (("a", 1), ("c", 1))),
                (PATH, (("a", 2), ("b", 1), ("c", 1)), (("c", 1), ("a", 2), ("b", 1)), (("a", 2),)),
                (TIGHT, (("a", MOST), ("a", MOST), ("b", 1)), (("a", MOST),) * 3, (("a", 2 * MOST),))):
            self.assertEqual(common(field, one, other), told, (one, other))
            self.assertEqual(common(field, other, one), told, (one, other))

    def test_by_words(self):
        for field, one, other in pairs_of_scripts():
            shared = lower_parts(field, one) & lower_parts(field, other)
            self.assertEqual(common(field, one, other), max(shared, key=length_by), (field, one, other))
            self.assertLessEqual(shared, lower_parts(field, common(field, one, other)))

    def test_longer(self):
        """All that is in common is below it, and it is below both; what is left has nothing in common."""
        for field, one, other in sharing_scripts():
            low = common(field, one, other)
            self.assertEqual(low, least_of(field, low))
            self.assertIs(is_lower(field, low, one), True)
            self.assertIs(is_lower(field, low, other), True)
            for name, sign in product(field[0], (1, -1)):
                more = least_of(field, low + ((name, sign),))
                below = all(is_lower(field, more, script) for script in (one, other))
                self.assertFalse(below and length_by(more) > length_by(low))

    def test_longest(self):
        deeds = (("a", 1), ("c", 2), ("b", -1)) * 20
        self.assertEqual(common(TIGHT, deeds, deeds), deeds)
        self.assertEqual(common(TIGHT, deeds, deeds[:57] + (("a", 4), ("c", 1))), deeds[:58])


class OverTests(unittest.TestCase):
    def test_some(self):
        for field, one, other, told in (
                (FIELD, (), (), ()), (FIELD, (), (("c", 2),), (("c", 2),)), (FIELD, (("a", 5),), (("a", 3),), (("a", 5),)),
                (FIELD, (("a", 5),), (("a", -3),), None), (FIELD, (("b", 5),), (("a", -3),), (("a", -3), ("b", 5))),
                (TIGHT, (("b", 5),), (("a", -3),), None), (FIELD, (("a", 3), ("c", 1)), (("a", 4),), None),
                (FIELD, (("a", 3), ("c", 1)), (("a", 3), ("b", 4)), None),
                (FIELD, (("c", 3), ("b", 1)), (("c", 3), ("a", 4)), (("c", 3), ("a", 4), ("b", 1))),
                (FIELD, (("c", 3), ("b", 1)), (("c", 2),), (("c", 3), ("b", 1))),
                (FIELD, (("a", MOST),) * 60, (("b", MOST),) * 60, (("a", 60 * MOST), ("b", 60 * MOST)))):
            self.assertEqual(over_both(field, one, other), told, (one, other))
            self.assertEqual(over_both(field, other, one), told, (one, other))

    def test_by_words(self):
        some = 0
        for field in fields_of(ABC):
            scripts = [()] + [script for many in (1, 2, 3) for script in scripts_of(ABC, (1, -1), many, (1, 2, 19)[many - 1])]
            for one, other in product(scripts, scripts):
                over = piles_above(field, one, length_by(least_of(field, other)))
                over = [pile for pile in over if least_of(field, other) in lower_parts(field, pile)]
                least = min(over, key=length_by, default=None)
                self.assertEqual(over_both(field, one, other), least, (field, one, other))
                if least is not None:
                    some += 1
                    self.assertTrue(all(least in lower_parts(field, pile) for pile in over))
        self.assertGreater(some, 100)

    def test_longer(self):
        for field, one, other in sharing_scripts():
            over = over_both(field, one, other)
            low = common(field, one, other)
            rests = [least_of(field, taken_back_of(low) + script) for script in (one, other)]
            touching = [(far, near) for far, _ in rests[0] for near, _ in rests[1]
                        if (far, near) not in field[1] and (near, far) not in field[1]]
            self.assertIs(over is None, bool(touching))
            if over is not None:
                self.assertTrue(alike(field, over, low + rests[0] + rests[1]))
                self.assertEqual(over, least_of(field, over))
                self.assertTrue(is_lower(field, one, over) and is_lower(field, other, over))


if __name__ == "__main__":
    unittest.main()
