"""[44] and deedpiles/turns.py."""

import unittest
from itertools import product

from by_words import (
    STRANGE, alike, fields_of, is_round, least_of, parts_of, round_turns, scripts_of, taken_back_of, turn_form_of,
)
from checks import ABC, FIELD, FIELDS, GOOD, MOST, SCRIPTS, CallCase
from deedpiles.errors import TooGreat
from deedpiles.turns import are_turns, does_turn, turn_form, turner, turns_of

TIGHT = (ABC, ())
LOOSE = (ABC, (("a", "b"), ("a", "c"), ("b", "c")))
PATH = (("a", "b", "c", "d"), (("a", "c"), ("a", "d"), ("b", "d")))
SQUARE = (("a", "b", "c", "d"), (("a", "c"), ("a", "d"), ("b", "c"), ("b", "d")))
SIX = (tuple("abcdef"), (("a", "c"), ("a", "d"), ("a", "e"), ("a", "f"), ("b", "d"), ("b", "e"), ("b", "f"), ("c", "e"), ("c", "f"), ("d", "f")))


def small_scripts(times=(1, -1, 2)):
    for number, field in enumerate(fields_of(ABC)):
        for many in range(6):
            for script in scripts_of(ABC, times, many, (1, 1, 1, 11, 127, 1409)[many] + number):
                yield field, script


def turned(script, many, ahead):
    """A script that is a turn of another one, to see: some of its steps come to the end, and others around all."""
    return ahead + script[many:] + script[:many] + taken_back_of(ahead)


def wound(names, many):
    """A script of 60 steps that is round, but so that the pieces of the last names have to go round most often."""
    return tuple((name, 1 + at % 2) for at, name in enumerate((names[-1] + names[-2]) * many + names))[-60:]


class CallTests(CallCase):
    def test_refused(self):
        of_one, of_two = {"field": FIELD, "deeds": GOOD}, {"field": FIELD, "one": GOOD, "other": GOOD}
        for act in (turn_form, turns_of):
            self.refuses(act, of_one, {"field": FIELDS, "deeds": SCRIPTS})
        for act in (are_turns, turner):
            self.refuses(act, of_two, {"field": FIELDS, "one": SCRIPTS, "other": SCRIPTS})
        for value in (None, ()):
            self.refuses(does_turn, {**of_two, "value": value}, {"field": FIELDS, "one": SCRIPTS, "other": SCRIPTS})

    def test_called(self):
        one, other = (("a", 1), ("c", 2), ("b", 1)), (("c", 2), ("a", 1), ("b", 1))
        for deeds in (GOOD, (), one, other):
            self.called(turn_form, {"field": FIELD, "deeds": deeds})
            self.called(turns_of, {"field": FIELD, "deeds": deeds})
        self.assertIs(self.called(are_turns, {"field": FIELD, "one": one, "other": other}), True)
        self.assertIs(self.called(are_turns, {"field": FIELD, "one": one, "other": one[::-1]}), True)
        self.assertIs(self.called(are_turns, {"field": FIELD, "one": one, "other": GOOD}), False)
        self.assertIsNone(self.called(turner, {"field": FIELD, "one": one, "other": GOOD}))
        for value, told in (((("b", -1),), False), ((("a", 1), ("b", 1)), False), ((("a", 1),), True), ((), False), (None, False)):
            self.assertIs(self.called(does_turn, {"field": FIELD, "one": one, "other": other, "value": value}), told)


class FormTests(unittest.TestCase):
    def test_some(self):
        for field, deeds, form in (
                (FIELD, (), ()), (FIELD, (("a", 5),), (("a", 5),)), (FIELD, (("c", 1), ("a", 1)), (("a", 1), ("c", 1))),
                (FIELD, (("c", 1), ("a", 5), ("c", -1)), (("a", 5),)), (FIELD, (("b", 1), ("a", 5)), (("a", 5), ("b", 1))),
                (TIGHT, (("c", 1), ("a", 2), ("b", 1), ("a", 1)), (("a", 1), ("c", 1), ("a", 2), ("b", 1))),
                (TIGHT, (("c", 1), ("b", 2), ("c", -1), ("b", 1)), (("b", 1), ("c", 1), ("b", 2), ("c", -1))),
                (FIELD, (("b", 1), ("c", 1), ("a", 1), ("c", 1)), (("a", 1), ("c", 1), ("b", 1), ("c", 1)))):
            self.assertEqual(turn_form(field, deeds), form)

    def test_by_words(self):
        for field, script in small_scripts():
            self.assertEqual(turn_form(field, script), turn_form_of(field, script), (field, script))
        for number, field in enumerate(fields_of(PATH[0])):
            for script in scripts_of(PATH[0], (1, -1), 6, 40009 + number):
                self.assertEqual(turn_form(field, script), turn_form_of(field, script), (field, script))
                self.assertEqual(turn_form(field, script * 2), turn_form_of(field, script * 2), (field, script))

    def test_same_for_all_turns(self):
        for field, script in small_scripts((1, MOST)):
            for many in range(len(script)):
                for ahead in ((), (("b", -1),), (("c", 2), ("a", -MOST))):
                    turn = turned(script, many, ahead)
                    self.assertEqual(turn_form(field, turn), turn_form(field, script))
                    self.assertIs(are_turns(field, script, turn), True)


class TurnerTests(unittest.TestCase):
    def check(self, field, one, other):
        told = turner(field, one, other)
        self.assertIsNotNone(told)
        self.assertEqual(told, least_of(field, told))
        self.assertTrue(len(told) <= 1000 and all(abs(times) < 10 ** 900 for _, times in told))
        self.assertTrue(alike(field, one, told + other + taken_back_of(told)))
        self.assertIs(does_turn(field, one, other, told), True)
        self.assertIs(are_turns(field, one, other), True)
        return told

    def test_pairs(self):
        """Two scripts are turns of one another if they have a round turn in common, and otherwise not."""
        for field in fields_of(ABC):
            scripts = [()] + [script for many in (1, 2, 3) for script in scripts_of(ABC, (1, -1), many, (1, 2, 11)[many - 1])]
            for one, other in product(scripts, scripts):
                if round_turns(field, one) & round_turns(field, other):
                    self.check(field, one, other)
                else:
                    self.assertIsNone(turner(field, one, other))
                    self.assertIs(are_turns(field, one, other), False)

    def test_turned(self):
        for field, script in small_scripts():
            for many in range(0, len(script), 2):
                for ahead in ((("b", -1),), (("c", 2), ("a", -MOST))):
                    turn = turned(script, many, ahead)
                    self.check(field, turn, script)
                    self.check(field, script, turn)
                    self.assertIsNone(turner(field, script + (("a", 5),), turn))

    def test_longest(self):
        """What turns long scripts to one another has few steps, if these have to go round often, too."""
        scripts = [wound(names, 30) for names in ("abcdef", "fedcba", "bacdef", "abdecf")]
        scripts += [tuple((name, MOST - at) for at, name in enumerate(names * 10)) for names in ("abcdef", "fedcba", "acebdf")]
        scripts += [tuple(("abcdef"[at * at % 6], (-1) ** at * (1 + at % 3)) for at in range(60))]
        half = tuple((name, MOST - at) for at, name in enumerate("bcdefa" * 5))[:25]
        scripts += [half + tuple(("abcdef"[at], at + 1) for at in range(6)) + taken_back_of(half)]
        for script in scripts:
            for field in (SIX, (SIX[0], ()), (SIX[0], (("a", "b"), ("c", "d"), ("e", "f")))):
                for many in (1, 30):
                    other = script[many:] + script[:many]
                    self.check(field, script, other)
                self.check(field, other, script)

    def test_the_other_is_turned_to_the_one(self):
        one, other = (("c", 1), ("a", 1), ("c", -1)), (("a", 1),)
        self.assertIs(does_turn(FIELD, one, other, (("c", 1),)), True)
        self.assertIs(does_turn(FIELD, other, one, (("c", 1),)), False)
        self.assertIs(does_turn(FIELD, other, one, (("c", -1),)), True)
        self.assertIs(does_turn(FIELD, other, one, turner(FIELD, other, one)), True)


class DoesTurnTests(unittest.TestCase):
    def test_by_words(self):
        for field in (FIELD, TIGHT, LOOSE):
            scripts = [()] + [script for many in (1, 2) for script in scripts_of(ABC, (1, -1), many)]
            for one, value in product(scripts, scripts):
                for other in (scripts[0], scripts[5], scripts[17], taken_back_of(value) + one + value):
                    told = alike(field, one, value + other + taken_back_of(value))
                    self.assertIs(does_turn(field, one, other, value), told)

    def test_values_of_every_kind(self):
        values = list(STRANGE) + [[("a", 1)], [], (("a", 1), None), (("d", 1),), (("a", 0),), (("a", True),), (["a", 1],), (("a", 1, 1),), "a", (("a", "1"),), ((), ())]
        values += [(value,) for value in STRANGE] + [(("a", value),) for value in (None, 0, True, False, "1", (1,))] + [((value, 1),) for value in STRANGE]
        for value in values:
            self.assertIs(does_turn(FIELD, GOOD, GOOD, value), False, value)
            self.assertIs(does_turn(FIELD, (), (), value), False, value)
        self.assertIs(does_turn(FIELD, GOOD, GOOD, ()), True)

    def test_edges(self):
        great = 10 ** 999
        many = (("a", great), ("c", -great)) * 500
        self.assertIs(does_turn(FIELD, (), (), many), True)
        self.assertIs(does_turn(FIELD, (), (), many + (("a", 1),)), False)
        self.assertIs(does_turn(FIELD, (("c", 1),), (("c", 1),), many), False)
        self.assertIs(does_turn(FIELD, (("a", 1),), (("a", 1),), (("a", great),)), True)
        self.assertIs(does_turn(FIELD, (("a", 1),), (("a", 1),), (("c", great), ("c", -great), ("b", great))), True)
        row = (("a", 1), ("c", 1))
        self.assertIs(does_turn(FIELD, row, row, row * 500), True)
        self.assertIs(does_turn(FIELD, row, row, row * 499 + (("c", 1),)), False)
        self.assertIs(does_turn(FIELD, row, row, row * 500 + (("a", 1),)), False)


class TurnsOfTests(CallCase):
    def test_by_words(self):
        for field, script in small_scripts():
            told = turns_of(field, script)
            self.assertIs(told.__class__, tuple)
            self.assertEqual(told, tuple(sorted(round_turns(field, script))), (field, script))

    def test_some(self):
        self.assertEqual(turns_of(FIELD, ()), ((),))
        self.assertEqual(turns_of(FIELD, (("a", MOST), ("b", -1))), ((("a", MOST), ("b", -1)),))
        self.assertEqual(turns_of(FIELD, (("a", 1), ("c", 2))), ((("a", 1), ("c", 2)), (("c", 2), ("a", 1))))
        self.assertEqual(turns_of(FIELD, (("a", 1), ("c", 2), ("a", 1))), ((("a", 2), ("c", 2)), (("c", 2), ("a", 2))))
        self.assertEqual(turns_of(FIELD, (("a", 1), ("c", 2)) * 30), tuple((one * 30) for one in ((("a", 1), ("c", 2)), (("c", 2), ("a", 1)))))

    def test_500_and_more(self):
        """Parts of two names have as many turns as pieces, if no two of these are alike."""
        def part(names, many):
            return tuple((names[at % 2], at + 1) for at in range(many))
        deeds = part("ab", 20) + part("cd", 24)
        self.assertEqual(len(turns_of(SQUARE, deeds)), 480)
        self.assertEqual(len(turns_of(SQUARE, part("ab", 10) + part("cd", 50))), 500)
        self.refused(lambda: turns_of(SQUARE, part("ab", 12) + part("cd", 42)), TooGreat, 500)
        self.refused(lambda: turns_of(SQUARE, part("ab", 30) + part("cd", 30)), TooGreat, 500)
        self.assertEqual(len(turns_of(SQUARE, (part("ab", 6) * 5 + part("cd", 30)))), 180)

    def test_round_turns(self):
        for deeds in (tuple(("abcd"[at * at % 4], at + 1) for at in range(20)), tuple(("acbd"[at % 4], 1) for at in range(20))):
            for field in (PATH, SQUARE):
                told = turns_of(field, deeds)
                self.assertEqual(list(told), sorted(set(told)))
                for turn in told:
                    self.assertTrue(is_round(field, turn) and least_of(field, turn) == turn)
                    self.assertIs(are_turns(field, turn, deeds), True)
                    self.assertEqual(len(parts_of(field, turn)), len(parts_of(field, told[0])))


if __name__ == "__main__":
    unittest.main()
