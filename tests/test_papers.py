"""[32] and deedpiles/papers.py."""

import unittest
from itertools import product

from by_words import STRANGE, Drawing, alike, fields_of, follow, least_of, scripts_of, taken_back_of
from checks import ABC, FIELD, FIELDS, GOOD, MOST, SCRIPTS, CallCase
from deedpiles.errors import BadPaper, TooGreat
from deedpiles.papers import check_paper, paper
from deedpiles.yards import led, need_yard

TIGHT = (ABC, ())
LOOSE = (ABC, (("a", "b"), ("a", "c"), ("b", "c")))
PATH = (("a", "b", "c", "d"), (("a", "c"), ("a", "d"), ("b", "d")))
ONE, OTHER = (("a", 1), ("b", 2)), (("b", 2), ("a", 1))
FIVE = ((1, 2, 3, 4, 0), (2, 3, 4, 0, 1), (0, 1, 2, 4, 3))
LONG = (("part", 0, 5), ("join", 0)) * 2500


def wrong_for_alike():
    """Values that are no paper on ONE and OTHER, which are alike."""
    good = (("change", 0),)
    form = list(STRANGE) + [(), ("alike",), ("alike", ()), ("alike", (), good, ()), ["alike", (), good], ("Alike", (), good), ("", (), good),
                            (None, (), good), (["alike"], (), good), ((), (), ()), ("alike", "parted"), "alike", (("alike", (), good),), ("part", FIVE, 0)]
    words = [("alike", (), ()), ("alike", good, good), ("alike", None, good), ("alike", (), None), ("alike", (), list(good)), ("alike", [], good),
             ("alike", (), (("change", 1),)), ("alike", (None,), good), ("alike", LONG + (("part", 0, 5),), good), ("alike", LONG, LONG),
             ("alike", (), good + LONG), ("alike", good, (("put", 0, ("b", 2)),)), ("alike", (("join", 0),), good), ("alike", FIVE, 0)]
    words += [("alike", (), value) for value in STRANGE] + [("alike", value, good) for value in STRANGE]
    parted = [("parted", FIVE, spot) for spot in range(5)] + [("parted", FIVE, 5), ("parted", (), good), ("parted", None, 0)]
    return ([(value, BadPaper, "form") for value in form] + [(value, BadPaper, "alike") for value in words]
            + [(value, BadPaper, "parted") for value in parted])


def wrong_for_parted():
    """Values that are no paper on ONE and (("b", 1),), which are not alike."""
    values = [("parted", FIVE, 5), ("parted", FIVE, -1), ("parted", FIVE, True), ("parted", FIVE, None), ("parted", FIVE, (0,)), ("parted", ((0,),) * 3, 0)]
    values += [("parted", list(FIVE), 0), ("parted", FIVE[:2], 0), ("parted", ((1, 0, 2), (0, 2, 1), (0, 1, 2)), 0), ("parted", FIVE[:2] + ((0, 0, 1, 2, 3),), 0)]
    values += [("parted", ((1, 0), (1, 0), (0, 1)), 2), ("parted", (tuple(range(2001)),) * 3, 0)]
    values += [("parted", FIVE, value) for value in STRANGE if not (value.__class__ is int and 0 <= value < 5)]
    values += [("parted", value, 0) for value in STRANGE]
    return [(value, BadPaper, "parted") for value in values] + [
        (("alike", (), ()), BadPaper, "alike"), (("alike", (("change", 0),), ()), BadPaper, "alike"), (("alike", FIVE, 0), BadPaper, "alike"),
        (("other", FIVE, 0), BadPaper, "form"), (("parted", FIVE), BadPaper, "form"), (("parted", FIVE, 0, 0), BadPaper, "form")]


class CallTests(CallCase):
    def test_refused(self):
        scripts = {"field": FIELDS, "one": SCRIPTS, "other": SCRIPTS}
        self.refuses(paper, {"field": FIELD, "one": GOOD, "other": GOOD}, scripts)
        self.refuses(check_paper, {"field": FIELD, "one": ONE, "other": OTHER, "paper": None}, {**scripts, "paper": wrong_for_alike()})
        self.refuses(check_paper, {"field": FIELD, "one": ONE, "other": (("b", 1),), "paper": None}, {**scripts, "paper": wrong_for_parted()})

    def test_called(self):
        for one, other in ((ONE, OTHER), (ONE, ()), (GOOD, (("c", 3),)), ((), ())):
            told = self.called(paper, {"field": FIELD, "one": one, "other": other})
            self.assertIs(told.__class__, tuple)
            word = self.called(check_paper, {"field": FIELD, "one": one, "other": other, "paper": told})
            self.assertEqual(word, told[0])


class PaperTests(CallCase):
    def check(self, field, one, other):
        """The paper holds, as the document tells and as check_paper does."""
        word, first, second = told = paper(field, one, other)
        self.assertEqual(check_paper(field, one, other, told), word)
        if alike(field, one, other):
            self.assertEqual(word, "alike")
            self.assertEqual(follow(field, one, first), follow(field, other, second))
            self.assertIsNotNone(follow(field, one, first))
            self.assertTrue(all(moves.__class__ is tuple and len(moves) <= 5000 for moves in (first, second)))
        else:
            self.assertEqual(word, "parted")
            self.assertIs(need_yard(field, first), first)
            self.assertNotEqual(led(field, first, one, second), led(field, first, other, second))
            drawing = Drawing(field, least_of(field, taken_back_of(one) + other))
            self.assertEqual(len(first[0]), len(drawing.all_spots()))

    def test_small_scripts(self):
        for number, field in enumerate(fields_of(ABC)):
            scripts = [()] + [script for many in (1, 2, 3, 4)
                              for script in scripts_of(ABC, (1, -2), many, (1, 7, 31, 263)[many - 1] + number)]
            for one, other in product(scripts, scripts):
                self.check(field, one, other)

    def test_alike_scripts(self):
        for number, field in enumerate(fields_of(PATH[0])):
            for script in scripts_of(PATH[0], (1, -1), 6, 9007 + number):
                for other in (least_of(field, script), script[1:] + script[:1], script[:2] + script[3:1:-1] + script[4:]):
                    self.check(field, script, other)

    def test_edges(self):
        self.assertEqual(paper(FIELD, (), ()), ("alike", (), ()))
        self.check(FIELD, (("a", MOST),) * 60, (("a", MOST),) * 59)
        self.check(FIELD, (("a", MOST),) * 60, (("a", MOST),) * 60)
        self.check(FIELD, (("a", MOST), ("b", -MOST)) * 30, (("b", -MOST), ("a", MOST)) * 30)
        deeds = (("a", 1), ("c", 2), ("b", -1)) * 20
        self.check(LOOSE, deeds, deeds[::-1])
        self.check(TIGHT, deeds, deeds[::-1])
        self.check(TIGHT, deeds, ())
        self.check(TIGHT, (), deeds)

    def test_2000_spots_and_more(self):
        field = (("a", "b", "c", "d"), (("a", "c"), ("a", "d"), ("b", "c"), ("b", "d")))
        ladder = tuple(("ab"[at % 2], 12) for at in range(31))
        side = tuple(("cd"[at % 2], 1) for at in range(16))
        self.check(field, taken_back_of(ladder), side[:15])
        self.refused(lambda: paper(field, taken_back_of(ladder), side), TooGreat, 2000)
        self.refused(lambda: paper(field, taken_back_of(side), ladder), TooGreat, 2000)
        # The yards of these have more spots, too, but what is between them is little, or nothing.
        self.check(field, ladder + side, side + ladder)
        self.check(field, side + ladder, ladder + side[:15])


class CheckTests(CallCase):
    def test_other_papers_hold(self):
        for told in (("alike", (), (("change", 0),)), ("alike", (("change", 0),), ()), ("alike", LONG, (("change", 0),)),
                     ("alike", (("put", 0, ("a", 3)),), (("change", 0), ("put", 0, ("a", 3))))):
            self.assertEqual(check_paper(FIELD, ONE, OTHER, told), "alike")
        for spot in range(5):
            self.assertEqual(check_paper(FIELD, ONE, (("b", 1),), ("parted", FIVE, spot)), "parted")
        self.assertEqual(check_paper(FIELD, (), (("c", 1),), ("parted", FIVE, 3)), "parted")
        self.refused(lambda: check_paper(FIELD, (), (("c", 1),), ("parted", FIVE, 0)), BadPaper, "parted")

    def test_moves_can_be_made_but_lead_apart(self):
        self.refused(lambda: check_paper(FIELD, (("a", 1), ("c", 1)), (("c", 1), ("a", 1)), ("alike", (), ())), BadPaper, "alike")
        self.refused(lambda: check_paper(FIELD, (("a", 1),), (("a", 2),), ("alike", (), ())), BadPaper, "alike")
        self.refused(lambda: check_paper(FIELD, (("a", 1),), (("a", 2),), ("alike", (), (("part", 0, 1),))), BadPaper, "alike")


if __name__ == "__main__":
    unittest.main()
