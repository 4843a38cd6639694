"""[0] to [3], [11], [12], [20], [21] and deedpiles/piles.py."""

import unittest
from copy import deepcopy
from itertools import product

from deedpiles.errors import BadField, BadScript, PileError
from deedpiles.piles import are_alike, ends, fronts, is_pile, joined, least_pile, length, need_script, taken_back
from by_words import (
    STRANGE, Drawing, all_forms, can_stand_first, fields_of, in_least_order, least_of, no_two_come_together, scripts_of,
    some_pile, taken_back_of,
)

ABC = ("a", "b", "c")
FIELD = (ABC, (("a", "b"),))
TIGHT = (ABC, ())
LOOSE = (ABC, (("a", "b"), ("a", "c"), ("b", "c")))
FOUR = (("a", "b", "c", "d"), (("a", "c"), ("a", "d"), ("b", "d")))
MOST = 10 ** 30
OF_ONE = (need_script, is_pile, least_pile, length, fronts, ends, taken_back)
OF_TWO = (are_alike, joined)


def small_scripts():
    """Fields with scripts of up to 4 steps, each with few of the scripts, others for each."""
    for number, field in enumerate(fields_of(ABC)):
        for many in range(5):
            each = (1, 1, 1, 5, 61)[many]
            for script in scripts_of(ABC, (1, -1, 2), many, each + number):
                yield field, script


def long_scripts():
    """Scripts of 7 steps of four names, of all fields of them."""
    for number, field in enumerate(fields_of(FOUR[0])):
        for script in scripts_of(FOUR[0], (1, -1), 7, 60013 + number):
            yield field, script


class RefusedTests(unittest.TestCase):
    def refused(self, act, kind, part):
        with self.assertRaises(kind) as caught:
            act()
        error = caught.exception
        self.assertIs(error.__class__, kind)
        self.assertIsInstance(error, PileError)
        told = error.part if kind is BadField else error.place
        self.assertEqual((told, told.__class__), (part, part.__class__))

    def no_script(self, deeds, place, field=FIELD):
        before = deepcopy(deeds)
        for act in OF_ONE:
            self.refused(lambda: act(field, deeds), BadScript, place)
            self.refused(lambda: act(deeds=deeds, field=field), BadScript, place)
        for act in OF_TWO:
            self.refused(lambda: act(field, deeds, (("a", 1),)), BadScript, place)
            self.refused(lambda: act(field, (("a", 1),), deeds), BadScript, place)
            self.refused(lambda: act(other=(), one=deeds, field=field), BadScript, place)
        self.assertEqual(deeds, before)

    def test_no_field(self):
        wrong = ((None, "form"), (ABC, "form"), ((), "form"), ([ABC, ()], "form"), (((), ()), "names"), (("a", ()), "names"),
                 ((ABC, []), "pairs"), ((ABC, (("b", "a"),)), "pairs"), ((("b", "a"), None), "names"))
        for field, part in wrong:
            for deeds in ((), (("a", 1),), None, (None,)):
                for act in OF_ONE:
                    self.refused(lambda: act(field, deeds), BadField, part)
                    self.refused(lambda: act(deeds=deeds, field=field), BadField, part)
                for act in OF_TWO:
                    self.refused(lambda: act(field, deeds, deeds), BadField, part)
                    self.refused(lambda: act(other=deeds, field=field, one=()), BadField, part)

    def test_no_tuple(self):
        for value in STRANGE:
            if not isinstance(value, tuple):
                self.no_script(value, None)
        self.no_script([("a", 1)], None)
        self.no_script("a", None)
        self.no_script({("a", 1): 1}, None)

    def test_no_step(self):
        for value in STRANGE + ((), ("a",), ("a", 1, 1), ["a", 1], "a1", (1, "a")):
            self.no_script((value,), 0)
            self.no_script((("a", 1), value), 1)
            self.no_script((("a", 1), ("c", -5), value, ("b", 1), value), 2)
            self.no_script((("a", 1),) * 59 + (value,), 59)

    def test_no_name_of_the_field(self):
        for value in STRANGE + ("d", "aa", "A", "a ", ("a",), ["a"], ABC):
            self.no_script(((value, 1),), 0)
            self.no_script((("a", 1), (value, 1)), 1)
        self.no_script((("b", 1),), 0, (("a", "c"), ()))

    def test_no_times(self):
        whole = [value for value in STRANGE if isinstance(value, int) and value not in (0,) and not isinstance(value, bool)]
        for value in STRANGE:
            if not any(value is number for number in whole):
                self.no_script((("a", value),), 0)
                self.no_script((("b", 1), ("a", value)), 1)
        for value in (0, True, False, "1", (1,), [1], MOST + 1, -MOST - 1, 10 ** 31, 10 ** 999, -10 ** 999):
            self.no_script((("a", value),), 0)

    def test_times_at_their_bounds(self):
        for times in (1, -1, 2, MOST, -MOST, MOST - 1, 1 - MOST):
            deeds = (("a", times),)
            self.assertIs(need_script(FIELD, deeds), deeds)
            self.assertEqual(least_pile(FIELD, deeds), deeds)

    def test_how_many_steps(self):
        deeds = (("a", 1), ("b", 1), ("c", 1)) * 20
        self.assertIs(need_script(FIELD, deeds), deeds)
        self.assertIs(need_script(FIELD, ()), ())
        self.no_script(deeds + (("a", 1),), None)
        self.no_script(deeds + (None,), None)
        self.no_script((None,) * 61, None)
        self.no_script((None,) * 60, 0)

    def test_the_first_one_is_refused(self):
        for act in OF_TWO:
            self.refused(lambda: act(FIELD, (("a", 1), None), None), BadScript, 1)
            self.refused(lambda: act(FIELD, None, (None,)), BadScript, None)
            self.refused(lambda: act(FIELD, (), (("a", 1), ("a", 1), ("a", True))), BadScript, 2)
            self.refused(lambda: act(None, None, None), BadField, "form")


class CallTests(unittest.TestCase):
    def test_by_name(self):
        one, other = (("c", 1), ("b", 2)), (("b", -2), ("a", 1))
        for act in OF_ONE:
            told = act(FIELD, one)
            self.assertEqual(act(field=FIELD, deeds=one), told)
            self.assertEqual(act(deeds=one, field=FIELD), told)
            self.assertEqual(act(FIELD, deeds=one), told)
        self.assertEqual(joined(FIELD, one, other), (("c", 1), ("a", 1)))
        self.assertEqual(joined(one=one, other=other, field=FIELD), (("c", 1), ("a", 1)))
        self.assertEqual(joined(other=one, field=FIELD, one=other), joined(FIELD, other, one))
        self.assertIs(are_alike(other=one, one=one, field=FIELD), True)
        self.assertIs(are_alike(FIELD, other=one, one=other), False)

    def test_same_call_twice_and_arguments_stay(self):
        for field, script in long_scripts():
            before = deepcopy((field, script))
            for act in OF_ONE:
                self.assertEqual(act(field, script), act(field, script))
            for act in OF_TWO:
                self.assertEqual(act(field, script, script[:3]), act(field, script, script[:3]))
            self.assertEqual((field, script), before)

    def test_kinds_of_values(self):
        deeds = (("b", 1), ("a", 1))
        self.assertIs(is_pile(FIELD, deeds), True)
        self.assertIs(is_pile(FIELD, deeds * 2), False)
        for act in (least_pile, fronts, ends, taken_back):
            self.assertIs(act(FIELD, deeds).__class__, tuple)
        self.assertIs(joined(FIELD, deeds, deeds).__class__, tuple)
        self.assertIs(length(FIELD, deeds).__class__, int)
        self.assertTrue(all(piece.__class__ is tuple for piece in least_pile(FIELD, deeds)))


class PileTests(unittest.TestCase):
    def test_empty_script(self):
        for act in (need_script, least_pile, fronts, ends, taken_back):
            self.assertEqual(act(FIELD, ()), ())
        self.assertIs(is_pile(FIELD, ()), True)
        self.assertEqual(length(FIELD, ()), 0)
        self.assertEqual(joined(FIELD, (), ()), ())
        self.assertIs(are_alike(FIELD, (), ()), True)
        self.assertIs(are_alike(FIELD, (), (("a", 1),)), False)

    def test_vanishes_past_what_is_apart(self):
        self.assertEqual(least_pile(FIELD, (("a", 1), ("b", 2), ("a", -1))), (("b", 2),))
        self.assertEqual(least_pile(FIELD, (("a", 1), ("c", 2), ("a", -1))), (("a", 1), ("c", 2), ("a", -1)))
        self.assertEqual(least_pile(LOOSE, (("a", 1), ("b", 2), ("c", 3), ("b", -2), ("a", -1))), (("c", 3),))
        row = (("a", 1), ("b", 1), ("c", 1), ("b", -1), ("a", -1))
        self.assertEqual(least_pile(FIELD, row), row[:3] + (("a", -1), ("b", -1)))
        self.assertEqual(least_pile(FOUR, (("a", 1), ("c", 1), ("d", 1), ("a", -1))), (("c", 1), ("d", 1)))
        self.assertEqual(least_pile(FOUR, (("a", 1), ("c", 1), ("b", 1), ("a", -1))), (("a", 1), ("c", 1), ("b", 1), ("a", -1)))

    def test_vanishing_lets_others_vanish(self):
        self.assertEqual(least_pile(TIGHT, (("a", 1), ("b", 1), ("c", 1), ("c", -1), ("b", -1), ("a", -1))), ())
        self.assertEqual(least_pile(TIGHT, (("a", 2), ("b", 1), ("b", -1), ("a", 3))), (("a", 5),))

    def test_sums_of_times(self):
        self.assertEqual(least_pile(FIELD, (("a", MOST),) * 60), (("a", 60 * MOST),))
        self.assertEqual(least_pile(FIELD, (("a", -MOST), ("b", 1), ("a", -MOST))), (("a", -2 * MOST), ("b", 1)))
        self.assertEqual(least_pile(FIELD, (("a", MOST), ("a", -MOST))), ())
        self.assertEqual(least_pile(FIELD, (("a", MOST), ("b", 1), ("a", -MOST + 1))), (("a", 1), ("b", 1)))
        self.assertEqual(least_pile(FIELD, (("a", 1), ("a", 1), ("a", -2), ("b", 1))), (("b", 1),))
        self.assertEqual(length(FIELD, (("a", -MOST),) * 60), 60 * MOST)
        self.assertEqual(joined(FIELD, (("c", MOST),), (("c", MOST),)), (("c", 2 * MOST),))
        self.assertEqual(taken_back(FIELD, (("c", MOST), ("c", MOST))), (("c", -2 * MOST),))

    def test_order_of_the_least_pile(self):
        self.assertEqual(least_pile(FIELD, (("b", 1), ("a", 1))), (("a", 1), ("b", 1)))
        self.assertEqual(least_pile(TIGHT, (("b", 1), ("a", 1))), (("b", 1), ("a", 1)))
        self.assertEqual(least_pile(LOOSE, (("c", 1), ("b", 1), ("a", 1))), (("a", 1), ("b", 1), ("c", 1)))
        # d can stand first, but a, behind it, cannot pass c or b: the names alone do not tell the order.
        field = (("a", "b", "c", "d"), (("a", "d"), ("b", "d"), ("c", "d")))
        self.assertEqual(least_pile(field, (("d", 1), ("c", 1), ("a", 1))), (("c", 1), ("a", 1), ("d", 1)))
        self.assertEqual(least_pile(FOUR, (("d", 1), ("c", 1), ("a", 1))), (("a", 1), ("d", 1), ("c", 1)))

    def test_is_pile(self):
        self.assertIs(is_pile(TIGHT, (("a", 1), ("b", 1), ("a", 1))), True)
        self.assertIs(is_pile(FIELD, (("a", 1), ("b", 1), ("a", 1))), False)
        self.assertIs(is_pile(FIELD, (("b", 1), ("a", 1))), True)
        self.assertIs(is_pile(TIGHT, (("a", 1), ("a", 2))), False)
        self.assertIs(is_pile(TIGHT, (("a", 1), ("a", -1))), False)

    def test_fronts_and_ends(self):
        deeds = (("b", 1), ("a", 1), ("c", 1), ("b", 2))
        self.assertEqual(fronts(FIELD, deeds), ("a", "b"))
        self.assertEqual(ends(FIELD, deeds), ("b",))
        self.assertEqual(fronts(LOOSE, deeds), ABC)
        self.assertEqual(ends(LOOSE, deeds), ABC)
        self.assertEqual(fronts(FIELD, (("c", 1), ("c", -1), ("b", 1))), ("b",))
        self.assertEqual(ends(FIELD, (("b", 1), ("c", 1), ("c", -1))), ("b",))

    def test_longest_scripts(self):
        deeds = (("a", 1), ("c", 2), ("b", -1)) * 20
        self.assertIs(is_pile(TIGHT, deeds), True)
        self.assertEqual(least_pile(TIGHT, deeds), deeds)
        self.assertEqual(length(TIGHT, deeds), 80)
        self.assertEqual(joined(TIGHT, deeds, taken_back(TIGHT, deeds)), ())
        self.assertEqual(len(joined(TIGHT, deeds, deeds)), 120)
        self.assertEqual(least_pile(LOOSE, deeds), (("a", 20), ("b", -20), ("c", 40)))
        self.assertIs(are_alike(LOOSE, deeds, deeds[::-1]), True)
        self.assertIs(are_alike(TIGHT, deeds, deeds[::-1]), False)


class ByWordsTests(unittest.TestCase):
    """The functions against what the document says, on many small scripts."""

    def test_all_moves_lead_to_the_least_pile(self):
        for field, script in small_scripts():
            forms = all_forms(field, script)
            piles = [form for form in forms if no_two_come_together(field, form)]
            least = {in_least_order(field, pile) for pile in piles}
            self.assertEqual(least, {least_pile(field, script)}, (field, script))
            self.assertIs(is_pile(field, script), script in piles)
            self.assertEqual({sum(abs(step[1]) for step in pile) for pile in piles}, {length(field, script)})

    def test_longer_scripts(self):
        for field, script in long_scripts():
            pile = least_of(field, script)
            self.assertEqual(least_pile(field, script), pile)
            self.assertIs(is_pile(field, script), no_two_come_together(field, script))
            self.assertIs(is_pile(field, pile), True)
            self.assertEqual(least_pile(field, pile), pile)

    def test_fronts_and_ends(self):
        for field, script in long_scripts():
            pile = some_pile(field, script)
            turned = pile[::-1]
            self.assertEqual(fronts(field, script), tuple(sorted(pile[at][0] for at in can_stand_first(field, pile))))
            self.assertEqual(ends(field, script), tuple(sorted(turned[at][0] for at in can_stand_first(field, turned))))

    def test_joined_and_taken_back(self):
        for field, script in long_scripts():
            one, other = script[:4], script[2:]
            self.assertEqual(joined(field, one, other), least_of(field, one + other))
            self.assertEqual(taken_back(field, one), least_of(field, taken_back_of(one)))
            self.assertEqual(joined(field, one, taken_back(field, one)), ())
            self.assertEqual(joined(field, taken_back(field, one), one), ())


class AlikeTests(unittest.TestCase):
    def test_alike(self):
        self.assertIs(are_alike(FIELD, (("a", 1), ("b", 1)), (("b", 1), ("a", 1))), True)
        self.assertIs(are_alike(TIGHT, (("a", 1), ("b", 1)), (("b", 1), ("a", 1))), False)
        self.assertIs(are_alike(FIELD, (("a", 2),), (("a", 1), ("a", 1))), True)
        self.assertIs(are_alike(FIELD, (("a", 2),), (("a", 1),)), False)
        self.assertIs(are_alike(FIELD, (("a", 1),), (("a", -1),)), False)
        self.assertIs(are_alike(FIELD, (("a", 1), ("b", 3), ("a", -1)), (("b", 3),)), True)
        self.assertIs(are_alike(FIELD, (("a", 1), ("c", 3), ("a", -1)), (("c", 3),)), False)

    def test_drawings(self):
        """Alike scripts lead to one spot in each drawing that is tried; a drawing parts the others."""
        for field in fields_of(ABC):
            scripts = [()] + list(scripts_of(ABC, (1, -2), 1)) + list(scripts_of(ABC, (1, -2), 3, 31))
            for one, other in product(scripts, scripts):
                rest = least_of(field, taken_back_of(one) + other)
                alike = are_alike(field, one, other)
                self.assertIs(alike, rest == ())
                drawing = Drawing(field, rest or (("a", 5), ("b", 5), ("c", 5)))
                ways = [drawing.led_by(taken_back_of(one) + row) for row in (one, other)]
                self.assertIs(ways[0] == ways[1], alike, (field, one, other))


if __name__ == "__main__":
    unittest.main()
