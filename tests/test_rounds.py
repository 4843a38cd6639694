"""[40], [41], [42] and deedpiles/rounds.py."""

import unittest
from itertools import permutations, product

from by_words import (
    STRANGE, alike, fields_of, is_root, is_round as is_round_by_words, least_of, length_by, no_two_come_together, parts_of,
    round_turns, scripts_of, taken_back_of,
)
from checks import ABC, FIELD, FIELDS, GOOD, MOST, SCRIPTS, CallCase
from deedpiles.rounds import core, is_round, is_split, split

TIGHT = (ABC, ())
LOOSE = (ABC, (("a", "b"), ("a", "c"), ("b", "c")))
PATH = (("a", "b", "c", "d"), (("a", "c"), ("a", "d"), ("b", "d")))
SIX = (tuple("abcdef"), (("a", "c"), ("a", "d"), ("a", "e"), ("a", "f"), ("b", "d"), ("b", "e"), ("b", "f"), ("c", "e"), ("c", "f"), ("d", "f")))
ALL = (is_round, core, split)


def small_scripts():
    for number, field in enumerate(fields_of(ABC)):
        for many in range(6):
            for script in scripts_of(ABC, (1, -1, 2), many, (1, 1, 1, 5, 61, 701)[many] + number):
                yield field, script


def longer_scripts():
    """Scripts of 8 to 13 steps of four names, some of them another one some times, or turned."""
    for number, field in enumerate(fields_of(PATH[0])):
        for script in scripts_of(PATH[0], (1, -1), 4, 409 + number):
            for more in ((), script[:1], script[1:3]):
                yield field, more + script * 2 + taken_back_of(more)
                yield field, more + script + (("b", 2), ("a", 1)) + taken_back_of(more)


def long_scripts():
    """Scripts of 60 steps, with great TIMES."""
    for names in ("abcdef" * 10, "fedcba" * 10, "acebdf" * 10, "abcabc" * 5 + "fedfed" * 5, "ab" * 15 + "ef" * 15):
        for all_times in ((1,), (MOST,), (-MOST, MOST), (1, 2, 3, -MOST, MOST - 1)):
            yield tuple((name, all_times[at % len(all_times)]) for at, name in enumerate(names))
    half = tuple((name, MOST - at) for at, name in enumerate("bcdefa" * 5))
    yield half + taken_back_of(half)
    yield half[:29] + (("a", 1), ("b", -1)) + taken_back_of(half[:29])
    yield half[:29] + (("a", MOST), ("a", MOST)) + taken_back_of(half[:29])


class CallTests(CallCase):
    def test_refused(self):
        for act in ALL:
            self.refuses(act, {"field": FIELD, "deeds": GOOD}, {"field": FIELDS, "deeds": SCRIPTS})
        for value in (None, ((), ())):
            self.refuses(is_split, {"field": FIELD, "deeds": GOOD, "value": value}, {"field": FIELDS, "deeds": SCRIPTS})

    def test_called(self):
        for deeds in (GOOD, (), GOOD[1:] + GOOD, (("a", 1), ("c", 2), ("a", 3)), (("a", 1), ("c", 2)) * 3):
            for act in ALL:
                self.called(act, {"field": FIELD, "deeds": deeds})
            self.assertIs(self.called(is_split, {"field": FIELD, "deeds": deeds, "value": split(FIELD, deeds)}), True)
            self.assertIs(self.called(is_split, {"field": FIELD, "deeds": deeds, "value": ((), [])}), False)


class RoundTests(unittest.TestCase):
    def test_some(self):
        for field, deeds, told in (
                (FIELD, (), True), (FIELD, (("a", 5),), True), (FIELD, (("a", 1), ("c", 1)), True), (FIELD, (("a", 1), ("c", 1), ("a", 1)), False),
                (FIELD, (("a", 1), ("c", 1), ("a", -1)), False), (FIELD, (("a", 1), ("b", 1), ("a", 1)), True), (TIGHT, (("a", 1), ("b", 1), ("a", 1)), False),
                (FIELD, (("a", 1), ("c", 1), ("b", 1)), True), (FIELD, (("a", 1), ("c", 1), ("b", 1), ("a", 2)), False),
                (FIELD, (("b", 3), ("a", 1), ("c", 1), ("b", -1)), False), (TIGHT, (("a", 1), ("b", 1), ("a", 1), ("c", 1)), True),
                (PATH, (("a", 1), ("b", 1), ("d", 1), ("c", 1), ("d", 1)), False), (PATH, (("a", 1), ("b", 1), ("c", 1), ("b", 2)), True)):
            self.assertIs(is_round(field, deeds), told, (field, deeds))

    def test_by_words(self):
        for field, script in list(small_scripts()) + list(longer_scripts()):
            self.assertIs(is_round(field, script), is_round_by_words(field, least_of(field, script)), (field, script))


class CoreTests(unittest.TestCase):
    def check(self, field, script):
        ahead, whole = told = core(field, script)
        self.assertIs(told.__class__, tuple)
        self.assertEqual((ahead, whole), (least_of(field, ahead), least_of(field, whole)))
        self.assertTrue(is_round_by_words(field, whole), (field, script))
        self.assertTrue(alike(field, script, ahead + whole + taken_back_of(ahead)), (field, script))
        return whole

    def test_some(self):
        self.assertEqual(core(FIELD, ()), ((), ()))
        self.assertEqual(core(FIELD, (("a", 1), ("c", 2))), ((), (("a", 1), ("c", 2))))
        self.assertEqual(core(FIELD, (("a", 1), ("c", 2), ("a", -1))), ((("a", 1),), (("c", 2),)))
        self.assertEqual(core(FIELD, (("a", 1), ("c", 2), ("a", 3)))[1], (("c", 2), ("a", 4)))

    def test_by_words(self):
        for field, script in small_scripts():
            self.assertIn(self.check(field, script), round_turns(field, script))

    def test_longer(self):
        for field, script in longer_scripts():
            self.check(field, script)

    def test_longest(self):
        for script in long_scripts():
            for field in (SIX, (SIX[0], ()), (SIX[0], (("a", "b"), ("c", "d"), ("e", "f")))):
                self.check(field, script)


class SplitTests(unittest.TestCase):
    def check(self, field, script, slowly=True):
        ahead, roots = told = split(field, script)
        self.assertIs(told.__class__, tuple)
        self.assertIs(roots.__class__, tuple)
        self.assertTrue(len(ahead) <= 1000 and all(abs(times) < 10 ** 900 for _, times in ahead))
        self.assertEqual(ahead, least_of(field, ahead))
        for root, many in roots:
            self.assertEqual(root, least_of(field, root))
            self.assertTrue(many.__class__ is int and many >= 1)
            self.assertTrue(is_round_by_words(field, root) and len(parts_of(field, root)) == 1)
            self.assertTrue(not slowly or is_root(field, root), (field, script))
        least = [min(root)[0] for root, _ in roots]
        self.assertEqual(least, sorted(least))
        self.assertEqual(len(least), len(parts_of(field, core(field, script)[1])))
        self.assertIs(is_split(field, script, told), True)
        return told

    def test_some(self):
        self.assertEqual(split(FIELD, ()), ((), ()))
        self.assertEqual(split(FIELD, (("a", 5),)), ((), (((("a", 1),), 5),)))
        self.assertEqual(split(FIELD, (("b", -7), ("a", MOST))), ((), (((("a", 1),), MOST), ((("b", -1),), 7))))
        self.assertEqual(split(FIELD, (("a", 1), ("c", -2)) * 3), ((), (((("a", 1), ("c", -2)), 3),)))
        self.assertEqual(split(FIELD, (("a", 2), ("c", -2))), ((), (((("a", 2), ("c", -2)), 1),)))
        self.assertEqual(split(FIELD, (("c", 1), ("a", -3), ("c", -1))), ((("c", 1),), (((("a", -1),), 3),)))
        self.assertEqual(split(FIELD, (("a", MOST),) * 60), ((), (((("a", 1),), 60 * MOST),)))
        pairs = (("a", "b", "c", "d"), (("a", "b"), ("a", "c"), ("b", "d"), ("c", "d")))
        # Here the parts are those of a and d, and of b and c.
        deeds = (("d", 1), ("a", 1)) * 4 + (("b", 1), ("c", 1)) * 6
        self.assertEqual(split(pairs, deeds), ((), (((("d", 1), ("a", 1)), 4), ((("b", 1), ("c", 1)), 6))))

    def test_small(self):
        for field, script in small_scripts():
            ahead, roots = self.check(field, script)
            steps = ahead + sum((root * many for root, many in roots), ()) + taken_back_of(ahead)
            self.assertTrue(alike(field, script, steps))

    def test_times(self):
        for field, script in small_scripts():
            if len(script) == 3:
                for many in (2, 3, 6):
                    self.check(field, script * many, many < 4)

    def test_longer(self):
        for field, script in longer_scripts():
            self.check(field, script, False)

    def test_longest(self):
        for script in long_scripts():
            for field in (SIX, (SIX[0], ()), (SIX[0], (("a", "b"), ("c", "d"), ("e", "f")))):
                self.check(field, script, False)


def splits_to_try(field):
    """Values in the form of splits, with few steps ahead and one root or two."""
    scripts = [()] + [script for many in (1, 2) for script in scripts_of(ABC, (1, -1, 2), many, (1, 2)[many - 1])]
    roots = [(script, many) for script in scripts + [(("a", 1), ("c", 1), ("a", 1)), (("a", 1), ("c", 1), ("b", 1), ("c", 1))] for many in (0, 1, 2)]
    yield from (((), (root,)) for root in roots)
    yield from (((("c", 1),), pair) for pair in product(roots[::3], roots[1::7]))
    yield from (((("b", -1), ("a", 2)), (root,)) for root in roots)


class IsSplitTests(unittest.TestCase):
    def is_split_by_words(self, field, script, value):
        ahead, roots = value
        if not all(many >= 1 and no_two_come_together(field, root) and is_root(field, root) for root, many in roots):
            return False
        for (one, _), (other, _) in permutations(roots, 2):
            if len(parts_of(field, one + other)) != len(parts_of(field, one)) + len(parts_of(field, other)):
                return False
        return alike(field, script, ahead + sum((root * many for root, many in roots), ()) + taken_back_of(ahead))

    def test_by_words(self):
        for field in (FIELD, TIGHT, LOOSE):
            told = {True: 0, False: 0}
            for ahead, roots in splits_to_try(field):
                script = ahead + sum((root * many for root, many in roots), ()) + taken_back_of(ahead)
                holds = self.is_split_by_words(field, script, (ahead, roots))
                self.assertIs(is_split(field, script, (ahead, roots)), holds, (field, ahead, roots))
                self.assertIs(is_split(field, script + (("a", 1),), (ahead, roots)), False)
                told[holds] += 1
            self.assertGreater(min(told.values()), 20)

    def test_other_splits(self):
        a, b, c = ((("a", 1),), 5), ((("b", -1),), 7), ((("c", 1),), 2)
        deeds = (("a", 5), ("b", -7))
        for value, told in (
                (((), (a, b)), True), (((), (b, a)), True), (((("a", 3),), (a, b)), True), (((("a", 3), ("a", -3)) * 500, (a, b)), True),
                (((("a", 3), ("a", -3)) * 500 + (("a", 1),), (a, b)), False), (((("a", 10 ** 999),), (b, a)), True), (((("c", 1),), (a, b)), False),
                (((), (a, b, c)), False), (((), (a,)), False), (((), (a, a)), False), (((), ()), False), (((), (((("a", 5),), 1), b)), False),
                (((), (((("a", -1),), 5), b)), False), (((), (((("a", 1), ("b", -1)), 5), ((("b", -1),), 2))), False), (((), (((), 1), a, b)), False),
                (((), (((("a", 1),), 2), ((("a", 1),), 3), b)), False)):
            self.assertIs(is_split(FIELD, deeds, value), told, value)
        self.assertIs(is_split(FIELD, (), ((), ())), True)
        self.assertIs(is_split(FIELD, (), ((("c", 10 ** 999), ("a", -5)), ())), True)
        self.assertIs(is_split(FIELD, (), ((), (((), 1),))), False)

    def test_names_of_different_roots_are_apart(self):
        a, b, c = ((("a", 1),), 5), ((("b", 1),), 7), ((("c", -1),), 2)
        for row in ((a, c), (c, a), (a, b, c), (b, c), (a, c, b)):
            deeds = tuple((root[0][0], root[0][1] * many) for root, many in row)
            self.assertIs(is_split(FIELD, deeds, ((), row)), False, row)
            self.assertIs(is_split(LOOSE, deeds, ((), row)), True, row)
        # Each of these alone is a root; the names of the first one and of the last one touch.
        pairs = (("a", "b", "c", "d", "e"), (("a", "d"), ("a", "e"), ("b", "d"), ("b", "e"), ("c", "d"), ("c", "e")))
        first, last = ((("a", 1), ("b", 1)), 2), ((("c", 1),), 3)
        self.assertIs(is_split(pairs, first[0] * 2 + (("d", 4), ("c", 3)), ((), (first, ((("d", 1),), 4), last))), False)
        self.assertIs(is_split(pairs, first[0] * 2 + (("d", 4),), ((), (first, ((("d", 1),), 4)))), True)

    def test_roots_that_are_no_least_piles(self):
        least = (("a", 1), ("b", 1), ("c", 1))
        self.assertIs(is_split(FIELD, least, ((), ((least, 1),))), True)
        self.assertIs(is_split(FIELD, least, ((), (((("b", 1), ("a", 1), ("c", 1)), 1),))), True)
        self.assertIs(is_split(FIELD, least * 2, ((), (((("b", 1), ("a", 1), ("c", 1)), 2),))), True)
        self.assertIs(is_split(FIELD, least, ((), (((("a", 1), ("c", 1), ("b", 1)), 1),))), False)
        # These can come together: they are no pile, and so no root.
        self.assertIs(is_split(FIELD, least, ((), (((("a", 2), ("b", 1), ("a", -1), ("c", 1)), 1),))), False)
        self.assertIs(is_split(FIELD, (("a", 2), ("c", 1)), ((), (((("a", 1), ("a", 1), ("c", 1)), 1),))), False)
        self.assertIs(is_split(FIELD, (("a", 2), ("c", 1)), ((("a", 1),), (((("a", 1), ("c", 1), ("a", 1)), 1),))), False)
        self.assertIs(is_split(FIELD, (("a", 2), ("c", 1)), ((("a", 1),), (((("c", 1), ("a", 2)), 1),))), False)
        self.assertIs(is_split(FIELD, (("a", 2), ("c", 1)), ((("a", 2),), (((("c", 1), ("a", 2)), 1),))), True)

    def test_values_of_every_kind(self):
        good = (((("a", 1),), 5), ((("c", 1),), 2))
        deeds = (("a", 5),)
        values = list(STRANGE) + [(), ((),), ((), (), ()), [(), good[:1]], ((), list(good[:1])), ([], good[:1]), ((), good[0]), (None, good[:1]), ((), None)]
        values += [((value,), good[:1]) for value in STRANGE] + [((), (value,)) for value in STRANGE] + [((("a", value),), good[:1]) for value in (0, True, None)]
        values += [((), (((("a", 1),), value),)) for value in STRANGE + (0, -5, True, "5", (5,), 10 ** 999)]
        values += [((), ((value, 5),)) for value in STRANGE + ([("a", 1)], ("a", 1), (["a", 1],), ((("a", 1),),), (("d", 1),), (("a", True),), (("a", 0),))]
        values += [((), (good[0] + (1,),)), ((), (list(good[0]),)), ((), good), ((("d", 1),), good[:1]), ((("a", 1), None), good[:1]), ((), (((("a", 1),) * 61, 5),))]
        values += [(((value, 1),), good[:1]) for value in STRANGE] + [((), ((((value, 1),), 5),)) for value in STRANGE]
        for value in values:
            self.assertIs(is_split(FIELD, deeds, value), False, value)
        self.assertIs(is_split(FIELD, deeds, ((), good[:1])), True)
        self.assertIs(is_split(FIELD, (("a", 1),), ((), (((("a", 1),), True),))), False)

    def test_how_many_steps(self):
        root = tuple(("ac"[at % 2], at + 1) for at in range(60))
        self.assertIs(is_split(FIELD, root, ((), ((root, 1),))), True)
        self.assertIs(is_split(FIELD, root, ((), ((root, 10 ** 999),))), False)
        self.assertIs(is_split(FIELD, root[:4] * 15, ((), ((root[:4], 15),))), True)
        self.assertIs(is_split(FIELD, root[:4] * 15, ((), ((root[:4], 14),))), False)
        self.assertIs(is_split(FIELD, root[:4] * 15, ((), ((root[:4] * 3, 5),))), False)
        long = root + (("a", 61),)
        self.assertIs(is_split(FIELD, root, ((("c", -1),), ((long, 1),))), False)

    def test_great_times(self):
        great = 10 ** 999
        self.assertIs(is_split(FIELD, (("a", 1), ("c", 1)), ((("b", great), ("a", great), ("b", -great), ("a", -great)), (((("a", 1), ("c", 1)), 1),))), True)
        self.assertIs(is_split(FIELD, (("a", 1), ("c", 1)), ((("b", great),), (((("a", great), ("c", 1)), 1),))), False)
        self.assertIs(is_split(FIELD, (("a", MOST),), ((), (((("a", 1),), MOST),))), True)
        self.assertIs(is_split(FIELD, (("a", MOST),), ((), (((("a", 1),), great),))), False)
        self.assertEqual(length_by(split(FIELD, (("c", MOST),) + (("a", 1),) + (("c", -MOST),))[0]), MOST)


if __name__ == "__main__":
    unittest.main()
