"""[25] and deedpiles/moves.py."""

import unittest
from itertools import product

from by_words import DEEP, STRANGE, after, alike, fields_of, follow, least_of, scripts_of
from checks import ABC, FIELD, FIELDS, GOOD, MOST, SCRIPTS, CallCase
from deedpiles.errors import BadMoves
from deedpiles.moves import moved, road

TIGHT = (ABC, ())
LOOSE = (ABC, (("a", "b"), ("a", "c"), ("b", "c")))
PATH = (("a", "b", "c", "d"), (("a", "c"), ("a", "d"), ("b", "d")))
ROW = (("a", 2), ("b", -1), ("b", 3), ("c", 1), ("c", -1), ("a", MOST))
NUMBERS = (-2, -1, 0, 1, 2, 3, 4, 5, 6, 7, 10 ** 999, -10 ** 999)
ALL_TIMES = (1, -1, 2, -3, 3, MOST, -MOST, 0, MOST + 1, -MOST - 1, 10 ** 999, True, False, None, "1", (1,), [1])
STEPS = [(name, times) for name in ("a", "b", "c", "d", "", None, ["a"]) for times in ALL_TIMES]


def moves_to_try():
    """Moves of all four kinds, and values that are nearly such."""
    words = ("change", "join", "part", "put", "move", "", None, 1, ["join"], DEEP)
    yield from product(words, NUMBERS)
    yield from product(words, NUMBERS, ALL_TIMES)
    yield from product(words, NUMBERS, STEPS)
    yield from ((word, at) for word in words for at in (True, False, None, "0", (0,), [0]))
    yield from ((word, at, more) for word in words for at in (True, False, None, "0") for more in (1, ("a", 1)))
    yield from ([word, 0] for word in words)
    yield from ((word, 0, 1, 1) for word in words)
    yield from ((word,) for word in words)
    yield from STRANGE + ((), "join", "change 1", {"join": 1})


class CallTests(CallCase):
    def test_refused(self):
        wrong = [(value, BadMoves, None) for value in STRANGE if not isinstance(value, tuple)]
        wrong += [([("put", 0, ("a", 1))], BadMoves, None), ((("put", 0, ("a", 1)),) * 5001, BadMoves, None), ((None,) * 5001, BadMoves, None)]
        wrong += [((None,) * 5000, BadMoves, 0), ((("change", 0), None, None), BadMoves, 1), ((("change", 0),) * 4999 + (("change", 6),), BadMoves, 4999)]
        self.refuses(moved, {"field": FIELD, "deeds": GOOD, "moves": ()}, {"field": FIELDS, "deeds": SCRIPTS, "moves": wrong})
        self.refuses(road, {"field": FIELD, "deeds": GOOD}, {"field": FIELDS, "deeds": SCRIPTS})

    def test_called(self):
        moves = (("change", 0), ("part", 1, -7), ("put", 5, ("c", -4)), ("join", 5))
        self.assertEqual(moved(FIELD, GOOD, moves[:3])[4:], (("c", 3), ("c", -4), ("c", 4)))
        for deeds in (GOOD, ROW[:2]):
            self.called(road, {"field": FIELD, "deeds": deeds})
        told = self.called(moved, {"field": FIELD, "deeds": GOOD, "moves": moves})
        self.assertEqual(told, (("a", 1), ("b", -7), ("b", 9), ("b", -1), ("c", 3)))


class MovedTests(CallCase):
    def test_each_kind(self):
        for deeds, move, told in (
                ((("a", 1), ("b", 2)), ("change", 0), (("b", 2), ("a", 1))),
                ((("c", 5), ("b", 2), ("a", 1)), ("change", 1), (("c", 5), ("a", 1), ("b", 2))),
                ((("c", 5), ("c", 2), ("a", 1)), ("join", 0), (("c", 7), ("a", 1))),
                ((("a", 1), ("c", 5), ("c", -5)), ("join", 1), (("a", 1),)),
                ((("c", 5),), ("part", 0, 2), (("c", 2), ("c", 3))),
                ((("a", 1), ("c", 5)), ("part", 1, 7), (("a", 1), ("c", 7), ("c", -2))),
                ((("a", MOST),), ("part", 0, -MOST), (("a", -MOST), ("a", 2 * MOST))),
                ((("c", 5),), ("put", 0, ("a", 2)), (("a", 2), ("a", -2), ("c", 5))),
                ((("c", 5),), ("put", 1, ("c", -2)), (("c", 5), ("c", -2), ("c", 2))),
                ((), ("put", 0, ("b", MOST)), (("b", MOST), ("b", -MOST)))):
            self.assertEqual(moved(FIELD, deeds, (move,)), told)
            self.assertIs(moved(FIELD, deeds, (move,)).__class__, tuple)

    def test_no_moves(self):
        for deeds in ((), GOOD, (("a", 1),) * 60):
            self.assertEqual(moved(FIELD, deeds, ()), deeds)

    def test_first_and_last_places(self):
        five = (("a", 1), ("b", 1), ("b", 1), ("a", 1), ("b", 1))
        for move, places in ((("change", 0), 4), (("join", 0), 4), (("part", 0, 2), 5), (("put", 0, ("a", 1)), 6)):
            for place in range(-1, 8):
                turned = (move[0], place) + move[2:]
                told = after(FIELD, five, turned)
                if told is None:
                    self.refused(lambda: moved(FIELD, five, (turned,)), BadMoves, 0)
                else:
                    self.assertTrue(0 <= place < places)
                    self.assertEqual(moved(FIELD, five, (turned,)), told)
            self.assertIsNone(after(FIELD, five, (move[0], places) + move[2:]))
        for move in (("change", 0), ("change", 3), ("join", 1), ("part", 0, 5), ("part", 4, 5), ("put", 0, ("c", 1)), ("put", 5, ("c", 1))):
            self.assertIsNotNone(moved(FIELD, five, (move,)))

    def test_all_that_can_be_made(self):
        for field in (FIELD, TIGHT, LOOSE):
            for move in moves_to_try():
                told = after(field, ROW, move)
                if told is None:
                    self.refused(lambda: moved(field, ROW, (move,)), BadMoves, 0)
                else:
                    self.assertEqual(moved(field, ROW, (move,)), told)
                    self.assertEqual(least_of(field, told), least_of(field, ROW))

    def test_the_first_that_cannot_be_made_then(self):
        deeds = (("a", 1), ("b", 1), ("a", -1))
        moves = (("change", 0), ("join", 1), ("join", 0))
        self.assertEqual(moved(FIELD, deeds, moves[:2]), (("b", 1),))
        self.refused(lambda: moved(FIELD, deeds, moves), BadMoves, 2)
        self.refused(lambda: moved(FIELD, deeds, moves[1:]), BadMoves, 0)
        self.refused(lambda: moved(FIELD, deeds, moves[:1] + (None,) + moves), BadMoves, 1)
        self.refused(lambda: moved(FIELD, (), (("part", 0, 1),)), BadMoves, 0)
        self.refused(lambda: moved(FIELD, (), (("put", 0, ("a", 1)), ("join", 0), ("join", 0))), BadMoves, 2)

    def test_sums_greater_than_times(self):
        deeds = (("a", MOST),) * 60
        told = moved(FIELD, deeds, (("join", 0),) * 59)
        self.assertEqual(told, (("a", 60 * MOST),))
        self.assertEqual(moved(FIELD, deeds, (("join", 0),) * 59 + (("part", 0, -MOST),)), (("a", -MOST), ("a", 61 * MOST)))
        self.refused(lambda: moved(FIELD, deeds, (("join", 0),) * 59 + (("part", 0, 2 * MOST),)), BadMoves, 59)

    def test_how_many_steps(self):
        deeds = (("a", 1),) * 60
        puts = (("put", 0, ("c", 1)),) * 170
        self.assertEqual(moved(FIELD, deeds, puts), (("c", 1), ("c", -1)) * 170 + deeds)
        for more in (("put", 400, ("a", 1)), ("put", 0, ("a", 1)), ("part", 0, 5), ("part", 399, 5)):
            self.refused(lambda: moved(FIELD, deeds, puts + (more,)), BadMoves, 170)
        self.assertEqual(len(moved(FIELD, deeds, puts + (("join", 398), ("part", 0, 5)))), 400)
        self.refused(lambda: moved(FIELD, deeds, puts + (("join", 398), ("put", 0, ("a", 1)))), BadMoves, 171)
        self.assertEqual(len(moved(FIELD, deeds, puts[1:] + (("part", 0, 5), ("part", 398, 5)))), 400)

    def test_how_many_moves(self):
        moves = (("part", 0, 1), ("join", 0)) * 2500
        self.assertEqual(moved(FIELD, (("a", 3),), moves), (("a", 3),))
        self.refused(lambda: moved(FIELD, (("a", 3),), moves + (("part", 0, 1),)), BadMoves, None)
        self.refused(lambda: moved(FIELD, (("a", 1),), moves), BadMoves, 0)


class RoadTests(CallCase):
    def leads(self, field, script):
        moves = road(field, script)
        self.assertIs(moves.__class__, tuple)
        self.assertLessEqual(len(moves), 5000)
        self.assertLessEqual({move[0] for move in moves}, {"change", "join"})
        self.assertTrue(all(move.__class__ is tuple and len(move) == 2 for move in moves))
        self.assertEqual(follow(field, script, moves), least_of(field, script), (field, script))
        self.assertEqual(moved(field, script, moves), least_of(field, script))

    def test_small_scripts(self):
        for number, field in enumerate(fields_of(ABC)):
            for many in range(6):
                for script in scripts_of(ABC, (1, -1, 2), many, (1, 1, 1, 5, 61, 701)[many] + number):
                    self.leads(field, script)

    def test_longer_scripts(self):
        for number, field in enumerate(fields_of(PATH[0])):
            for script in scripts_of(PATH[0], (1, -1), 7, 60013 + number):
                self.leads(field, script + script[:3])

    def test_longest_scripts(self):
        six = (tuple("abcdef"), tuple((one, other) for one, other in product("abc", "def")))
        for deeds in ((("f", 1), ("e", -1), ("d", MOST)) * 10 + (("c", 1), ("b", -1), ("a", MOST)) * 10,
                      tuple((name, 1) for name in "fcebda") * 10, tuple((name, 1) for name in "fcebda" * 5 + "adbecf" * 5)):
            self.leads(six, deeds)
            self.leads((six[0], ()), deeds)
            self.leads(LOOSE, tuple((name, times) for name, times in deeds if name in ABC))
        self.assertTrue(alike(six, deeds, moved(six, deeds, road(six, deeds))))

    def test_a_least_pile(self):
        self.assertEqual(road(FIELD, ()), ())
        self.assertEqual(road(FIELD, (("a", 1), ("b", 1), ("c", 1), ("a", 1))), ())


if __name__ == "__main__":
    unittest.main()
