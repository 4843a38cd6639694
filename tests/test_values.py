"""[4], [11], [20] to [22], [61], [62] and deedpiles/values.py."""

import unittest
from copy import deepcopy
from itertools import permutations, product

from by_words import STRANGE, fields_of, least_of, length_by, scripts_of, taken_back_of
from checks import ABC, FIELD, FIELDS, GOOD, MOST, SCRIPTS, CallCase
from deedpiles import lower, middles, piles, powers
from deedpiles.errors import BadNumber, TooGreat, Unlike
from deedpiles.values import Pile

TIGHT = (ABC, ())
LOOSE = (ABC, (("a", "b"), ("a", "c"), ("b", "c")))
PATH = (("a", "b", "c", "d"), (("a", "c"), ("a", "d"), ("b", "d")))
# Three pairs of names that touch one another, each apart from the others.
PAIRS = (tuple("abcdef"), tuple((one, other) for one, other in product("abcdef", repeat=2)
                                if one < other and one + other not in ("ab", "cd", "ef")))
NO_TIMES = [value for value in STRANGE + (MOST + 1, -MOST - 1, 10 ** 999, -10 ** 999, "1", (1,), [1])
            if value.__class__ is not int or abs(value) > MOST]
NO_PILES = STRANGE + (GOOD, FIELD, (("a", 1),), 2, [1, 2], "ab", object())


def small_pairs():
    """Fields with pairs of scripts of up to 4 steps, each with few of the pairs, others for each."""
    for number, field in enumerate(fields_of(PATH[0])):
        scripts = [()] + [script for many in (1, 2, 3, 4)
                          for script in scripts_of(PATH[0], (1, -1, 2), many, (3, 29, 401, 3301)[many - 1] + number)]
        yield from ((field, one, other) for one, other in list(product(scripts, repeat=2))[number % 5::5])


def power_by_halves(pile, times):
    """A pile so many times, by products of Piles alone."""
    if times < 0:
        return power_by_halves(~pile, -times)
    if times < 2:
        return pile if times else Pile(pile.field, ())
    half = power_by_halves(pile, times // 2)
    return half * half * (pile if times % 2 else Pile(pile.field, ()))


class MadeTests(CallCase):
    def same(self, pile, field, steps):
        """The pile has this field and these steps, and is a Pile."""
        self.assertIs(pile.__class__, Pile)
        self.assertEqual((pile.field, pile.steps, len(pile)), (field, steps, len(steps)))

    def test_refused(self):
        self.refuses(Pile, {"field": FIELD, "deeds": GOOD}, {"field": FIELDS, "deeds": SCRIPTS})

    def test_called(self):
        for deeds in (GOOD, (), (("b", 1), ("a", -1)), (("a", 1), ("a", -1))):
            self.same(self.called(Pile, {"field": FIELD, "deeds": deeds}), FIELD, least_of(FIELD, deeds))

    def test_properties(self):
        for field, deeds, _ in small_pairs():
            pile = Pile(field, deeds)
            self.same(pile, field, piles.least_pile(field, deeds))
            self.assertEqual(pile.length, piles.length(field, deeds))
            self.assertEqual([value.__class__ for value in (pile.steps, pile.length, len(pile))], [tuple, int, int])

    def test_empty(self):
        for deeds in ((), (("a", 1), ("b", 2), ("a", -1), ("b", -2))):
            pile = Pile(FIELD, deeds)
            self.same(pile, FIELD, ())
            self.assertEqual(pile.length, 0)
            self.assertTrue(pile == ~pile == pile * pile == pile & pile == pile.many(-7) == pile.over_both(pile) == pile.middle(pile, pile))
            self.refused(lambda: pile[0], BadNumber, 0)
            self.assertFalse("a" in pile)

    def test_60_steps(self):
        deeds = (("a", 1), ("b", 1), ("c", 1)) * 20
        self.same(Pile(TIGHT, deeds), TIGHT, deeds)
        self.same(Pile(LOOSE, (("a", MOST),) * 60), LOOSE, (("a", 60 * MOST),))
        self.assertEqual(Pile(LOOSE, (("a", -MOST),) * 60).length, 60 * MOST)

    def test_never_changes(self):
        pile, other = Pile(FIELD, GOOD), Pile(FIELD, (("c", 2),))
        for name in ("field", "steps", "length"):
            with self.assertRaises(AttributeError):
                setattr(pile, name, ())
        before = (pile.field, pile.steps, pile.length)
        pile * other, ~pile, pile & other, pile.many(3), pile.is_lower(other), pile.over_both(other), pile.distance(other), pile.middle(other, other)
        changed = pile
        changed *= other
        changed &= pile
        with self.assertRaises(TypeError):
            pile[0] = ("a", 1)
        self.assertEqual((pile.field, pile.steps, pile.length), before)
        self.same(other, FIELD, (("c", 2),))


class PieceTests(CallCase):
    def test_pieces(self):
        for field, deeds, _ in small_pairs():
            pile = Pile(field, deeds)
            self.assertEqual(tuple(pile[number] for number in range(len(pile))), pile.steps)
            for number in (-1, len(pile), len(pile) + 1, -len(pile) - 1):
                self.refused(lambda: pile[number], BadNumber, number)

    def test_no_number(self):
        pile = Pile(FIELD, GOOD)
        for value in STRANGE + (-1, 3, 10 ** 999, "0", (0,), [0], -3):
            if not (value.__class__ is int and 0 <= value < len(pile)):
                before = deepcopy(value)
                self.refused(lambda: pile[value], BadNumber, value)
                self.assertEqual(value, before)

    def test_names(self):
        for field, deeds, _ in small_pairs():
            pile = Pile(field, deeds)
            names = [name for name, _ in pile.steps]
            for value in PATH[0] + ("e", "aa", ""):
                self.assertIs(value in pile, value in names)
        pile = Pile(FIELD, (("a", 1), ("b", 1), ("a", -1), ("c", 1)))
        for value in STRANGE + ("a", "ab", ("b", 1), ["b"], ("b",), 0, pile, ABC):
            self.assertIs(value in pile, False)
        self.assertEqual([name in pile for name in ABC], [False, True, True])

    def test_no_iteration(self):
        for pile in (Pile(FIELD, GOOD), Pile(FIELD, ()), Pile(FIELD, GOOD) * Pile(FIELD, GOOD)):
            for act in (iter, list, tuple, set, sorted, dict, sum, enumerate, lambda one: [piece for piece in one], lambda one: [*one]):
                with self.assertRaises(TypeError):
                    act(pile)
            with self.assertRaises(TypeError):
                first, *_ = pile


class EqualTests(unittest.TestCase):
    def test_alike(self):
        equal = 0
        for field, one, other in small_pairs():
            told = least_of(field, one) == least_of(field, other)
            equal += told
            self.assertIs(Pile(field, one) == Pile(field, other), told)
            self.assertIs(Pile(field, one) != Pile(field, other), not told)
            self.assertIs(Pile(field, one) == Pile(field, one + (("a", 1), ("a", -1))), True)
        self.assertGreater(equal, 50)

    def test_fields(self):
        every = [Pile(field, (("a", 1),)) for field in fields_of(ABC)] + [Pile((("a",), ()), (("a", 1),)), Pile((("a", "b"), ()), (("a", 1),))]
        for (at, one), (place, other) in product(enumerate(every), repeat=2):
            self.assertIs(one == other, at == place)
            self.assertIs(one != other, at != place)

    def test_other_values(self):
        for pile in (Pile(FIELD, GOOD), Pile(FIELD, ())):
            for value in NO_PILES + (pile.steps, (pile.field, pile.steps), pile.length, Pile):
                self.assertFalse(pile == value or value == pile)
                self.assertTrue(pile != value and value != pile)


class OperatorTests(CallCase):
    same = MadeTests.same

    def test_by_functions(self):
        overs = 0
        for field, one, other in small_pairs():
            pile, more = Pile(field, one), Pile(field, other)
            self.same(pile * more, field, piles.joined(field, one, other))
            self.same(~pile, field, piles.taken_back(field, one))
            self.same(pile & more, field, lower.common(field, one, other))
            over = lower.over_both(field, one, other)
            self.assertIs(pile.is_lower(more), lower.is_lower(field, one, other))
            if over is None:
                self.assertIsNone(pile.over_both(more))
            else:
                overs += 1
                self.same(pile.over_both(more), field, over)
            self.assertEqual(pile.distance(more), middles.distance(field, one, other))
            third = one[1:] + other[:1]
            self.same(pile.middle(more, Pile(field, third)), field, middles.middle_of(field, one, other, third))
            for times in (0, 1, -1, 2, -3):
                self.same(pile.many(times), field, powers.power(field, one, times))
        self.assertGreater(overs, 100)

    def test_by_name(self):
        one, other, third = Pile(FIELD, GOOD), Pile(FIELD, (("b", 3),)), Pile(FIELD, (("c", 1),))
        self.same(Pile(deeds=GOOD, field=FIELD), FIELD, least_of(FIELD, GOOD))
        self.assertEqual(one.many(times=-2), one.many(-2))
        self.assertIs(Pile(FIELD, (("b", 1),)).is_lower(other=other), True)
        self.assertEqual(one.over_both(other=other), one.over_both(other))
        self.assertEqual(one.distance(other=other), one.distance(other))
        self.assertEqual(one.middle(third=third, other=other), one.middle(other, third))
        self.assertEqual(one.middle(other=other, third=third), middle_by_name(one, other, third))

    def test_the_same_twice(self):
        one, other = Pile(FIELD, GOOD), Pile(FIELD, (("c", -3), ("b", 1)))
        for act in (lambda: one * other, lambda: ~one, lambda: one & other, lambda: one.many(5), lambda: one.is_lower(other),
                    lambda: one.over_both(other), lambda: one.distance(other), lambda: one.middle(other, one)):
            self.assertEqual(act(), act())
            self.assertIs(act().__class__, act().__class__)

    def test_kinds_of_values(self):
        one, other = Pile(FIELD, GOOD), Pile(FIELD, ())
        self.assertIs(other.is_lower(one), True)
        self.assertIs(one.is_lower(other), False)
        self.assertIs(one.distance(one).__class__, int)
        self.assertIsNone(Pile(FIELD, (("a", 1),)).over_both(Pile(FIELD, (("a", -1),))))

    def test_no_piles(self):
        pile = Pile(FIELD, GOOD)
        acts = [lambda one, other: one * other, lambda one, other: one & other, lambda one, other: one + other, lambda one, other: one - other,
                lambda one, other: one | other, lambda one, other: one ^ other, lambda one, other: one // other, lambda one, other: one % other,
                lambda one, other: one ** other, lambda one, other: one << other, lambda one, other: one >> other, lambda one, other: one / other,
                lambda one, other: one @ other, lambda one, other: one < other, lambda one, other: one <= other, lambda one, other: one > other,
                lambda one, other: one >= other]
        for act in acts:
            for value in NO_PILES:
                # To a string, what has items is a table of values for its places: Python does not ask the pile.
                behind = value.__class__ is str and act is acts[7]
                for both in ((pile, value), (value, pile))[:1 if behind else 2]:
                    with self.assertRaises(TypeError):
                        act(*both)
        for act in acts[2:]:
            with self.assertRaises(TypeError):
                act(pile, pile)
        for act in (lambda one: -one, lambda one: +one, abs, hash, lambda one: one()):
            with self.assertRaises(TypeError):
                act(pile)

    def test_unlike(self):
        others = [Pile(TIGHT, GOOD), Pile(PATH, (("a", 1),)), Pile((ABC, (("a", "c"),)), ()), Pile(TIGHT, ()) * Pile(TIGHT, GOOD)]
        for pile, other in product((Pile(FIELD, GOOD), Pile(FIELD, ())), others):
            for act in (lambda: pile * other, lambda: pile & other, lambda: pile.is_lower(other), lambda: pile.over_both(other),
                        lambda: pile.distance(other), lambda: pile.middle(other, pile), lambda: pile.middle(pile, other)):
                self.refused(act, Unlike, other.field)
            for third in others:
                self.refused(lambda: pile.middle(other, third), Unlike, other.field)
                self.refused(lambda: pile.middle(third=third, other=other), Unlike, other.field)

    def test_unlike_ahead_of_too_great(self):
        great = Pile(TIGHT, (("a", 1), ("b", 1)) * 30).many(3)
        self.assertEqual(len(great), 180)
        self.refused(lambda: great * (Pile(FIELD, GOOD)), Unlike, FIELD)
        self.refused(lambda: Pile(FIELD, GOOD).middle(great, great), Unlike, TIGHT)


def middle_by_name(one, other, third):
    return Pile.middle(self=one, third=third, other=other)


class TimesTests(CallCase):
    same = MadeTests.same

    def test_no_times(self):
        for pile in (Pile(FIELD, GOOD), Pile(FIELD, ()), Pile(TIGHT, (("a", 1), ("b", 1)) * 30)):
            for value in NO_TIMES:
                before = deepcopy(value)
                self.refused(lambda: pile.many(value), BadNumber, value)
                self.refused(lambda: pile.many(times=value), BadNumber, value)
                self.assertEqual(value, before)

    def test_times_at_their_bounds(self):
        pile = Pile(FIELD, (("a", MOST), ("b", -2)))
        for times in (0, 1, -1, 2, MOST, -MOST, MOST - 1, 1 - MOST):
            self.same(pile.many(times), FIELD, (("a", MOST * times), ("b", -2 * times)) if times else ())
            self.assertEqual(pile.many(times).length, (MOST + 2) * abs(times))
        self.refused(lambda: pile.many(MOST + 1), BadNumber, MOST + 1)
        self.refused(lambda: pile.many(-MOST - 1), BadNumber, -MOST - 1)

    def test_times_greater_than_may_be_passed(self):
        pile = Pile(FIELD, (("c", MOST), ("a", MOST))).many(1)
        more = Pile(FIELD, (("a", 1), ("b", MOST))).many(MOST)
        self.same(more, FIELD, (("a", MOST), ("b", MOST ** 2)))
        self.same(more.many(-MOST), FIELD, (("a", -MOST ** 2), ("b", -MOST ** 3)))
        self.same(more * more, FIELD, (("a", 2 * MOST), ("b", 2 * MOST ** 2)))
        self.same(pile * more, FIELD, (("c", MOST), ("a", 2 * MOST), ("b", MOST ** 2)))
        self.same(~more & ~(more * more), FIELD, (("a", -MOST), ("b", -MOST ** 2)))
        self.assertIs(more.is_lower(more * more), True)
        self.assertEqual(more.distance(~more), 2 * more.length)
        self.assertEqual(more[1], ("b", MOST ** 2))
        self.assertEqual(more.over_both(more * more), more * more)
        self.assertEqual(more.middle(more * more, more.many(3)), more * more)
        self.assertEqual(Pile(FIELD, (("c", 1),)) * more.many(7) * Pile(FIELD, (("c", -1),)), (Pile(FIELD, (("c", 1),)) * more * Pile(FIELD, (("c", -1),))).many(7))

    def test_by_halves(self):
        for field, deeds, _ in small_pairs():
            pile = Pile(field, deeds)
            for times in (5, -6, 13):
                self.assertEqual(pile.many(times), power_by_halves(pile, times))


class GreatTests(CallCase):
    same = MadeTests.same

    def test_200_pieces_and_more(self):
        two, one = Pile(TIGHT, (("a", 1), ("b", 1))), Pile(TIGHT, (("a", 1),))
        pile = two.many(100)
        self.same(pile, TIGHT, two.steps * 100)
        self.assertEqual(pile[199], ("b", 1))
        self.refused(lambda: pile[200], BadNumber, 200)
        self.same(~pile, TIGHT, taken_back_of(two.steps) * 100)
        self.same(pile & pile, TIGHT, pile.steps)
        self.same(pile * ~two, TIGHT, two.steps * 99)
        self.same(pile * Pile(TIGHT, (("b", 5),)), TIGHT, pile.steps[:199] + (("b", 6),))
        for act in (lambda: pile * one, lambda: pile * two, lambda: pile * pile, lambda: ~pile * ~pile, lambda: two.many(101), lambda: two.many(-101),
                    lambda: pile.many(2), lambda: pile.many(MOST), lambda: pile.many(-MOST), lambda: Pile(TIGHT, (("b", 1),)) * ~pile * Pile(TIGHT, (("a", 1),)) * pile * pile):
            self.refused(act, TooGreat, 200)
        self.assertEqual(pile.many(0).steps, ())
        self.assertEqual(pile.many(-1), ~pile)
        self.assertEqual(pile.distance(~pile), 400)
        self.assertIs(two.is_lower(pile), True)
        self.assertEqual(pile.middle(two, ~pile), two)
        self.refused(lambda: pile.middle(Pile(FIELD, ()), pile), Unlike, FIELD)

    def test_odd_pieces(self):
        """Of these, four pieces go round, and one of them is parted at both ends: 4 for each time, and 1 more."""
        pile = Pile(FIELD, (("a", 1), ("c", 1), ("b", 1), ("c", -1), ("a", 3)))
        self.assertEqual(len(pile.many(49)), 197)
        self.assertEqual(pile.many(49), power_by_halves(pile, 49))
        self.refused(lambda: pile.many(50), TooGreat, 200)
        self.refused(lambda: pile.many(-50), TooGreat, 200)

    def test_over_both_and_middles(self):
        ab, cd, ef = [Pile(PAIRS, ((one, 1), (other, 1)) * 30) for one, other in ("ab", "cd", "ef")]
        both = ab.many(2) * cd
        self.assertEqual(len(both), 180)
        self.assertEqual(ab.many(2).over_both(cd), both)
        self.same(both.over_both(Pile(PAIRS, (("e", 1), ("f", 1)) * 10)), PAIRS, least_by_parts(ab.many(2).steps, cd.steps, (("e", 1), ("f", 1)) * 10))
        self.refused(lambda: both.over_both(Pile(PAIRS, (("e", 1), ("f", 1)) * 10 + (("e", 1),))), TooGreat, 200)
        self.refused(lambda: both.over_both(ef), TooGreat, 200)
        self.assertIsNone(both.over_both(~cd))
        one, two, three = ab * cd, ab * ef, cd * ef
        self.same(one.middle(two, three), PAIRS, least_by_parts(ab.steps, cd.steps, ef.steps))
        more = Pile(PAIRS, (("a", 1), ("b", 1)) * 10)
        for others in permutations((more * one, more * two, three)):
            self.assertEqual(len(others[0].middle(*others[1:])), 200)
        more = more * Pile(PAIRS, (("d", 1), ("c", 1)))
        for others in permutations((more * one, more * two, Pile(PAIRS, (("d", 1), ("c", 1))) * three)):
            self.refused(lambda: others[0].middle(*others[1:]), TooGreat, 200)


def least_by_parts(*parts):
    """The least pile of steps of names that are apart: of those that are left, the first step with the least name comes next."""
    parts, row = [list(part) for part in parts], []
    while any(parts):
        parts = sorted(part for part in parts if part)
        row.append(min(parts, key=lambda part: part[0][0]).pop(0))
    return tuple(row)


class LengthTests(unittest.TestCase):
    def test_length_and_number_of_pieces(self):
        for field, one, other in small_pairs():
            pile = Pile(field, one) * Pile(field, other)
            told = least_of(field, one + other)
            self.assertEqual((pile.length, len(pile)), (length_by(told), len(told)))


if __name__ == "__main__":
    unittest.main()
