"""[63] and deedpiles/toldback.py."""

import unittest
from itertools import combinations

from by_words import STRANGE, alike, apart, fields_of as each_field, scripts_of
from checks import ABC, GOOD, MOST, SCRIPTS, CallCase
from deedpiles.errors import BadClaims, BadField, TooGreat
from deedpiles.toldback import fields_of, quarrel, told_pairs

FOUR = ("a", "b", "c", "d")
ALL = (fields_of, told_pairs, quarrel)
AB, BA = (("a", 1), ("b", 1)), (("b", 1), ("a", 1))
AC, CA = (("a", 1), ("c", 2)), (("c", 2), ("a", 1))
ABCC, CABC = AB + (("c", 1),), (("c", 1),) + AB

NAMES = [
    (None, BadField, "names"), ((), BadField, "names"), (("b", "a"), BadField, "names"), (("a", "a"), BadField, "names"), (["a"], BadField, "names"),
    (("a", "B"), BadField, "names"), (("a", "abcdefg"), BadField, "names"), (("a", ""), BadField, "names"), (tuple("abcdefg"), BadField, "names"),
    (("a", "b", "c", "e", "d"), BadField, "names"), (tuple("abcde"), TooGreat, 4), (tuple("abcdef"), TooGreat, 4),
] + [(value, BadField, "names") for value in STRANGE if value != ("a", "b", "c")]
CLAIMS = [
    (None, BadClaims, None), ([(AB, BA, True)], BadClaims, None), (((AB, BA, True),) * 13, BadClaims, None), ((None,) * 13, BadClaims, None),
    (((AB, BA, True), (AB, BA)), BadClaims, 1), (((AB, BA, 1),), BadClaims, 0), (((AB, BA, 0),), BadClaims, 0), (((AB, BA, None),), BadClaims, 0),
    (((AB, BA, True), (AB, BA, "True")), BadClaims, 1), (([AB, BA, True],), BadClaims, 0), (((AB, BA, True, True),), BadClaims, 0),
    (((AB, BA, True),) * 11 + (None,), BadClaims, 11), (((AB, (("d", 1),), True),), BadClaims, 0), (((AB, BA, True), ((("d", 1),), AB, False), None), BadClaims, 1),
] + [(value, BadClaims, None) for value in STRANGE if not isinstance(value, tuple)] \
    + [((value,), BadClaims, 0) for value in STRANGE] + [(((AB, BA, True), (AB, BA, value)), BadClaims, 1) for value in STRANGE if value.__class__ is not bool] \
    + [(((wrong, AB, True),), BadClaims, 0) for wrong, _, _ in SCRIPTS] + [(((AB, AB, True), (AB, wrong, True)), BadClaims, 1) for wrong, _, _ in SCRIPTS]


def all_hold(field, claims):
    return all(alike(field, one, other) == is_alike for one, other, is_alike in claims)


def by_words(names, claims):
    """The fields, the pairs and the quarrel that claims tell, by a search of all fields and of all rows of claims."""
    every = sorted(each_field(names))
    fields = [field for field in every if all_hold(field, claims)]
    pairs = []
    for one, other in combinations(names, 2):
        words = sorted({"apart" if apart(field, one, other) else "touch" for field in fields})
        pairs.append((one, other, words[0] if len(words) == 1 else "either"))
    rows = [row for many in range(len(claims) + 1) for row in combinations(range(len(claims)), many)]
    row = next((row for row in rows if not any(all_hold(field, [claims[at] for at in row]) for field in every)), None)
    return tuple(fields), tuple(pairs) if fields else None, row


def some_claims(names, times, each):
    """Rows of claims: some that are true of one field, and some others."""
    fields = list(each_field(names))
    scripts = [script for many in (1, 2, 3, 4) for script in scripts_of(names, times, many, (1, 3, 11, 61)[many - 1])]
    pairs = [(one, other) for at, one in enumerate(scripts) for other in (one[::-1], one[1:] + one[:1])]
    # Of what is alike in all fields, or in none, few rows of claims have enough.
    pairs = [(one, other) for one, other in pairs if len({alike(field, one, other) for field in fields}) == 2 or len(one) == 1]
    for number in range(0, len(pairs), each):
        field = fields[number * 5 % len(fields)]
        row = pairs[number:number + 4 * each:each]
        true = tuple((one, other, alike(field, one, other)) for one, other in row)
        yield true
        yield true + tuple((other, one, not told) for one, other, told in true[1:])
        yield tuple((one, other, at % 3 > 0) for at, (one, other) in enumerate(row))


class CallTests(CallCase):
    def test_refused(self):
        for act in ALL:
            self.refuses(act, {"names": ABC, "claims": ((AB, BA, True),)}, {"names": NAMES, "claims": CLAIMS})

    def test_called(self):
        for claims in ((), ((AB, BA, True),), ((AB, BA, True), (GOOD, (), True)), ((AB, BA, True), (AB, BA, False))):
            for act in ALL:
                self.called(act, {"names": ABC, "claims": claims})

    def test_kinds_of_values(self):
        claims = ((AB, BA, True), (AB, BA, False))
        for told in (fields_of(ABC, ()), fields_of(ABC, claims), told_pairs(ABC, ()), quarrel(ABC, claims)):
            self.assertIs(told.__class__, tuple)
        self.assertIs(told_pairs(ABC, claims), None)
        self.assertIs(quarrel(ABC, ()), None)
        self.assertEqual([number.__class__ for number in quarrel(ABC, claims)], [int, int])


class ToldTests(unittest.TestCase):
    def test_no_claims(self):
        for names in (("a",), ("b", "x"), ABC, FOUR):
            self.assertEqual(fields_of(names, ()), tuple(sorted(each_field(names))))
            self.assertEqual(told_pairs(names, ()), tuple((one, other, "either") for one, other in combinations(names, 2)))
            self.assertIsNone(quarrel(names, ()))
        self.assertEqual(len(fields_of(FOUR, ())), 64)

    def test_one_name(self):
        one = ("a",)
        true, wrong = ((("a", 2),), (("a", 1), ("a", 1)), True), ((("a", 2),), (("a", 1),), True)
        self.assertEqual(fields_of(one, (true,)), ((one, ()),))
        self.assertEqual(told_pairs(one, (true,)), ())
        self.assertIsNone(quarrel(one, (true,)))
        self.assertEqual(fields_of(one, (true, wrong)), ())
        self.assertIsNone(told_pairs(one, (true, wrong)))
        self.assertEqual(quarrel(one, (true, wrong)), (1,))

    def test_some(self):
        apart_pair, touching_pair = (("a", "b"),), ()
        self.assertEqual(fields_of(("a", "b"), ((AB, BA, True),)), ((("a", "b"), apart_pair),))
        self.assertEqual(fields_of(("a", "b"), ((AB, BA, False),)), ((("a", "b"), touching_pair),))
        self.assertEqual(told_pairs(ABC, ((AB, BA, True), (AC, CA, False))), (("a", "b", "apart"), ("a", "c", "touch"), ("b", "c", "either")))
        self.assertEqual(told_pairs(ABC, ((ABCC, CABC, True),)), (("a", "b", "either"), ("a", "c", "apart"), ("b", "c", "apart")))
        self.assertEqual(told_pairs(ABC, ((ABCC, CABC, False),)), (("a", "b", "either"), ("a", "c", "either"), ("b", "c", "either")))
        self.assertEqual(len(fields_of(ABC, ((ABCC, CABC, False),))), 6)
        self.assertEqual(told_pairs(("x", "yy"), (((("yy", MOST), ("x", -MOST)), (("x", -MOST), ("yy", MOST)), True),)), (("x", "yy", "apart"),))

    def test_quarrels(self):
        true, wrong, never = (AB, BA, True), (AB, BA, False), ((), (("a", 1),), True)
        for claims, told in (
                ((true, wrong), (0, 1)), ((true, true, wrong, wrong), (0, 2)), ((true, never, wrong), (1,)), ((never, never), (0,)),
                ((wrong, (AC, CA, True), (ABCC, (("b", 1), ("c", 1), ("a", 1)), True)), (0, 2)), ((true, (AC, CA, False), (ABCC, (("b", 1), ("c", 1), ("a", 1)), False)), None),
                ((true, (AC, CA, True), ((("a", 1), ("b", 1), ("c", 2)), (("b", 1), ("c", 2), ("a", 1)), False)), (0, 1, 2)), (((AC, CA, True), true) * 6, None),
                (((AC, CA, True), true) * 5 + ((AC, CA, False), wrong), (0, 10))):
            self.assertEqual(quarrel(ABC, claims), told, claims)
            self.assertIs(told_pairs(ABC, claims) is None, told is not None)

    def test_twelve_claims_of_60_steps(self):
        deeds = (("a", 1), ("b", 1), ("c", -1), ("d", 1)) * 15
        claims = tuple((deeds[at:] + deeds[:at], deeds[::-1], at % 4 == 0) for at in range(12))
        fields, pairs, row = by_words(FOUR, claims)
        self.assertEqual(fields_of(FOUR, claims), fields)
        self.assertEqual(told_pairs(FOUR, claims), pairs)
        self.assertEqual(quarrel(FOUR, claims), row)
        every = ((deeds, deeds, True),) * 12
        self.assertEqual(len(fields_of(FOUR, every)), 64)
        self.assertIsNone(quarrel(FOUR, every))

    def test_twelve_claims_that_quarrel_late(self):
        """Of six pairs each is apart by one claim, or touches by none; a last one needs that one of them touches."""
        pairs = list(combinations(FOUR, 2))
        claims = tuple((((one, 1), (other, 1)), ((other, 1), (one, 1)), True) for one, other in pairs)
        deeds = tuple((name, 1) for name in FOUR)
        claims = claims + ((deeds, deeds[::-1], False),)
        self.assertEqual(quarrel(FOUR, claims), tuple(range(7)))
        self.assertEqual(quarrel(FOUR, claims[:6] + claims[:5] + claims[6:]), (0, 1, 2, 3, 4, 5, 11))
        self.assertIsNone(quarrel(FOUR, claims[:6] * 2))
        self.assertEqual(fields_of(FOUR, claims[:6] * 2), ((FOUR, tuple(pairs)),))

    def test_by_words(self):
        counts = [0, 0, 0]
        for names, times, each in ((("a", "b"), (1, -1), 3), (ABC, (1, -1), 7), (("x", "xa", "y"), (1, -2), 11), (FOUR, (1, -1), 31)):
            for claims in some_claims(names, times, each):
                fields, pairs, row = by_words(names, claims)
                self.assertEqual(fields_of(names, claims), fields, (names, claims))
                self.assertEqual(told_pairs(names, claims), pairs, (names, claims))
                self.assertEqual(quarrel(names, claims), row, (names, claims))
                counts[0] += pairs is None
                counts[1] += pairs is not None and any(pair[2] == "either" for pair in pairs)
                counts[2] += row is not None and len(row) > 1
        self.assertGreater(min(counts), 30, counts)


if __name__ == "__main__":
    unittest.main()
