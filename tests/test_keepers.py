"""[45] and deedpiles/keepers.py."""

import unittest
from itertools import product

from by_words import alike, apart, fields_of, least_of, round_turns, scripts_of, some_piles, taken_back_of
from checks import ABC, FIELD, FIELDS, GOOD, MOST, SCRIPTS, CallCase
from deedpiles.keepers import do_change, free_names, kept_as
from deedpiles.rounds import split

TIGHT = (ABC, ())
LOOSE = (ABC, (("a", "b"), ("a", "c"), ("b", "c")))
PATH = (("a", "b", "c", "d"), (("a", "c"), ("a", "d"), ("b", "d")))
FIVE = (("a", "b", "c", "d", "e"), (("a", "c"), ("a", "d"), ("a", "e"), ("b", "c"), ("b", "d"), ("b", "e"), ("c", "e"), ("d", "e")))


def done(script, number):
    """The steps of a script so often, one behind the other, or what takes them back so often."""
    return script * number if number >= 0 else taken_back_of(script) * -number


def made_of(ahead, roots, numbers, rest):
    """What goes ahead, the roots so many times, a script of other names, and what goes ahead taken back."""
    steps = ahead
    for (root, _), number in zip(roots, numbers):
        steps += ((root[0][0], root[0][1] * number),) * (number != 0) if len(root) == 1 else done(root, number)
    return steps + rest + taken_back_of(ahead)


def free_of(field, script):
    """The free names of a script, by a round pile that is a turn of it."""
    pile = min(round_turns(field, script))
    return tuple(name for name in field[0] if all(apart(field, name, other) for other, _ in pile))


class CallTests(CallCase):
    def test_refused(self):
        self.refuses(do_change, {"field": FIELD, "one": GOOD, "other": GOOD}, {"field": FIELDS, "one": SCRIPTS, "other": SCRIPTS})
        self.refuses(free_names, {"field": FIELD, "deeds": GOOD}, {"field": FIELDS, "deeds": SCRIPTS})
        self.refuses(kept_as, {"field": FIELD, "deeds": GOOD, "other": ()}, {"field": FIELDS, "deeds": SCRIPTS, "other": SCRIPTS})

    def test_called(self):
        scripts = [GOOD, (), (("b", 1),), (("a", 1),), (("c", 1), ("a", 1), ("c", -1)), (("c", 1), ("a", 2), ("b", 1), ("c", -1))]
        for one, other in product(scripts, repeat=2):
            self.called(do_change, {"field": FIELD, "one": one, "other": other})
            self.called(free_names, {"field": FIELD, "deeds": one})
            self.called(kept_as, {"field": FIELD, "deeds": one, "other": other})

    def test_kinds_of_values(self):
        self.assertIs(do_change(FIELD, (), GOOD), True)
        self.assertIs(do_change(FIELD, (("a", 1),), GOOD), False)
        self.assertIs(kept_as(FIELD, (("a", 1),), GOOD), None)
        for told in (free_names(FIELD, GOOD), kept_as(FIELD, GOOD, GOOD), *kept_as(FIELD, GOOD, GOOD)):
            self.assertIs(told.__class__, tuple)


class ChangeTests(unittest.TestCase):
    def test_some(self):
        for field, one, other, told in (
                (FIELD, (), (), True), (FIELD, (), GOOD, True), (FIELD, GOOD, GOOD, True), (FIELD, (("a", 5),), (("b", -7),), True),
                (FIELD, (("a", 5),), (("c", -7),), False), (FIELD, (("a", 5),), (("a", -7),), True), (FIELD, (("a", 1), ("a", -1)), (("c", 1),), True),
                (FIELD, (("c", 1), ("a", 5), ("c", -1)), (("c", 1), ("b", 2), ("a", 1), ("c", -1)), True),
                (FIELD, (("c", 1), ("a", 5), ("c", -1)), (("b", 2),), False), (FIELD, (("a", 1), ("c", 1)) * 2, (("a", 1), ("c", 1)) * 3, True),
                (FIELD, (("a", 1), ("c", 1)) * 2, (("c", 1), ("a", 1)) * 2, False), (FIELD, (("a", MOST),) * 60, (("b", -MOST),) * 60, True),
                (TIGHT, (("a", 1), ("b", 2), ("c", 3)) * 20, (("c", -3), ("b", -2), ("a", -1)) * 20, True)):
            self.assertIs(do_change(field, one, other), told, (one, other))
            self.assertIs(do_change(field, other, one), told, (one, other))

    def test_by_words(self):
        for number, field in enumerate(fields_of(ABC)):
            scripts = [()] + [script for many in (1, 2, 3, 4)
                              for script in scripts_of(ABC, (1, -1, 2), many, (1, 5, 53, 499)[many - 1] + number)]
            for one, other in product(scripts, repeat=2):
                self.assertIs(do_change(field, one, other), alike(field, one + other, other + one), (field, one, other))


class FreeTests(unittest.TestCase):
    def test_some(self):
        for field, deeds, told in (
                (FIELD, (), ABC), (FIELD, (("a", 1), ("a", -1)), ABC), (FIELD, (("a", 2),), ("b",)), (FIELD, (("a", 2), ("b", 1)), ()), (FIELD, (("c", 2),), ()),
                (FIELD, (("c", 1), ("a", 2), ("c", -1)), ("b",)), (TIGHT, (("c", 1), ("a", 2), ("c", -1)), ()), (LOOSE, (("a", MOST),) * 60, ("b", "c")),
                (PATH, (("a", 1),), ("c", "d")), (PATH, (("a", 1), ("d", 1)), ()), (PATH, (("b", 1), ("a", 1), ("b", -1)), ("c", "d")),
                (FIVE, (("a", 1), ("b", 1)), ("c", "d", "e")), (FIVE, (("a", 1), ("e", 1), ("b", 1)), ("c", "d"))):
            self.assertEqual(free_names(field, deeds), told, (field, deeds))

    def test_by_words(self):
        for field in fields_of(ABC):
            for pile in some_piles(field, 4):
                self.assertEqual(free_names(field, pile), free_of(field, pile), (field, pile))
        for number, field in enumerate(fields_of(PATH[0])):
            for script in scripts_of(PATH[0], (1, -1), 5, 4001 + number):
                self.assertEqual(free_names(field, script), free_of(field, script), (field, script))


class KeptTests(unittest.TestCase):
    def test_some(self):
        inner = (("c", 1), ("a", 2), ("c", -1))
        for field, deeds, other, told in (
                (FIELD, (), (), ((), ())), (FIELD, (), GOOD, ((), least_of(FIELD, GOOD))), (FIELD, (("a", 4),), (), ((0,), ())),
                (FIELD, (("a", 4),), (("b", 3), ("a", -7)), ((-7,), (("b", 3),))), (FIELD, (("a", -4),), (("b", 3), ("a", -7)), ((7,), (("b", 3),))),
                (FIELD, (("a", -4), ("b", 9)), (("b", 3), ("a", -7)), ((7, 3), ())), (FIELD, inner, (("c", 1), ("a", -6), ("b", 3), ("c", -1)), ((-6,), (("b", 3),))),
                (FIELD, inner, (("a", 2),), None), (FIELD, inner, (("c", 1), ("a", 1)), None), (FIELD, (("a", 1), ("c", 1)) * 4, (("a", 1), ("c", 1)), ((1,), ())),
                (FIELD, (("a", 1), ("c", 1)) * 4, (("c", -1), ("a", -1)) * 3, ((-3,), ())), (FIELD, (("a", 1), ("c", 1)) * 4, (("c", 1), ("a", 1)), None),
                (LOOSE, (("c", 1), ("a", 5)), (("a", MOST), ("b", MOST), ("c", -MOST)), ((MOST, -MOST), (("b", MOST),))),
                (FIELD, (("a", MOST),), (("a", MOST),) * 30 + (("b", -MOST),) * 30, ((30 * MOST,), (("b", -30 * MOST),))),
                (TIGHT, (("a", 1), ("b", 2), ("c", 3)) * 20, (("a", 1), ("b", 2), ("c", 3)) * 7, ((7,), ())),
                (PATH, (("b", 1), ("a", 1), ("b", -1)), (("d", 1), ("c", 2), ("d", 3)), None),
                (PATH, (("a", 1),), (("d", 1), ("c", 2), ("d", 3), ("a", 2)), ((2,), (("d", 1), ("c", 2), ("d", 3))))):
            self.assertEqual(kept_as(field, deeds, other), told, (field, deeds, other))

    def test_made_of_roots(self):
        """The very numbers, and what is done besides, of all that is made of the roots that split tells."""
        scripts = [(field, script) for number, field in enumerate(fields_of(PATH[0]))
                   for script in scripts_of(PATH[0], (1, -2), 4, 977 + number)]
        scripts += [(FIVE, script) for script in scripts_of(FIVE[0], (1, -1), 6, 14009)]
        scripts += [(FIVE, script[:2] + script[2:] * 3 + taken_back_of(script[:2])) for script in scripts_of(FIVE[0], (1, -1), 6, 14009)]
        some = 0
        for field, script in scripts:
            ahead, roots = split(field, script)
            free = free_of(field, script)
            rests = [()] + [(step, other, step) for step, other in product([(name, times) for name in free for times in (2, -1)], repeat=2)]
            for at, numbers in enumerate(product((0, 1, -1, 3, -2), repeat=len(roots))):
                rest = rests[at * 7 % len(rests)]
                other = made_of(ahead, roots, numbers, rest)
                if len(other) <= 60:
                    some += 1
                    self.assertEqual(kept_as(field, script, other), (numbers, least_of(field, rest)), (field, script, other))
        self.assertGreater(some, 3000)

    def test_by_words(self):
        """All that changes places with small piles, and all that does not."""
        for field in fields_of(ABC):
            others = some_piles(field, 3)
            for pile in some_piles(field, 3)[::3]:
                ahead, roots = split(field, pile)
                free = free_of(field, pile)
                for other in others:
                    told = kept_as(field, pile, other)
                    self.assertIs(told is None, not alike(field, pile + other, other + pile), (field, pile, other))
                    if told is not None:
                        numbers, rest = told
                        self.assertEqual(len(numbers), len(roots))
                        self.assertTrue(all(number.__class__ is int for number in numbers))
                        self.assertTrue(all(name in free for name, _ in rest))
                        self.assertEqual(rest, least_of(field, rest))
                        self.assertTrue(alike(field, made_of(ahead, roots, numbers, rest), other))

    def test_longest(self):
        ahead = (("b", 1), ("c", 2), ("a", -1)) * 9
        deeds = ahead + (("c", 1), ("b", 1)) * 3 + taken_back_of(ahead)
        told, roots = split(TIGHT, deeds)
        self.assertEqual(len(deeds), 60)
        for number in (0, 1, -1, 2, -3):
            other = made_of(ahead, [((("c", 1), ("b", 1)), 3)], (number,), ())
            self.assertEqual(kept_as(TIGHT, deeds, other), ((number,), ()), (told, roots))
        self.assertIsNone(kept_as(TIGHT, deeds, ahead))


if __name__ == "__main__":
    unittest.main()
