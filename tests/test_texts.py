"""[65], [66] and deedpiles/texts.py."""

import re
import unittest
from itertools import product

from by_words import STRANGE, fields_of, scripts_of
from checks import ABC, FIELD, FIELDS, GOOD, MOST, SCRIPTS, CallCase
from deedpiles.errors import BadField, BadScript, BadText, PileError
from deedpiles.texts import field_text, read_field, read_script, script_text

PATH = (("a", "b", "c", "d"), (("a", "c"), ("a", "d"), ("b", "d")))
NO_STRINGS = [(value, BadText, None, None) for value in STRANGE + (7, (1, "a"), ["names a"], FIELD) if not isinstance(value, str)]

FIELD_TEXTS = NO_STRINGS + [(text, BadText, line, word) for text, line, word in (
    ("", 0, 0), (" ", 0, 0), ("\n", 0, 0), ("a", 0, 0), ("name a", 0, 0), ("Names a", 0, 0), (" names a", 0, 0), ("apart a b", 0, 0),
    ("names", 0, 1), ("names ", 0, 1), ("names  a", 0, 1), ("names a ", 0, 2), ("names a  b", 0, 2), ("names a B", 0, 2), ("names a b1 c", 0, 2), ("names a -", 0, 2),
    ("names a abcdefg", 0, 2), ("names A\napart", 0, 1), ("names a b\n", 1, 0), ("names a b\n\napart a b", 1, 0), ("names a b\napart a b\n", 2, 0), ("names a b\nnames a b", 1, 0),
    ("names a b\n apart a b", 1, 0), ("names a b\napart", 1, 1), ("names a b\napart a", 1, 2), ("names a b\napart ", 1, 1), ("names a b\napart a ", 1, 2), ("names a b\napart  a b", 1, 1),
    ("names a b\napart a  b", 1, 2), ("names a b\napart a b c", 1, 3), ("names a b\napart a b ", 1, 3), ("names a b\napart a b c d", 1, 3), ("names a b\napart A b c", 1, 1),
    ("names a b\napart a B c", 1, 2), ("names a b\napart a b\napart a", 2, 2), ("names a b\napart a\napart", 1, 2), ("names b a\napart", 1, 1), ("names a b c d e f g\napart a", 1, 2),
    ("names a b\napart a b\napart a\n", 2, 2), ("names\napart a b", 0, 1), ("names a b\naparta b", 1, 0), ("names a^1", 0, 1), ("names a\tb", 0, 1), ("-", 0, 0))
] + [(text, BadField, part) for text, part in (
    ("names b a", "names"), ("names a a", "names"), ("names a b c d e f g", "names"), ("names b a\napart c d", "names"), ("names a b\napart b a", "pairs"), ("names a b\napart a a", "pairs"),
    ("names a b\napart a c", "pairs"), ("names a b c\napart b c\napart a b", "pairs"), ("names a b\napart a b\napart a b", "pairs"), ("names a\napart b c", "pairs"))]

SCRIPT_TEXTS = NO_STRINGS + [(text, BadText, 0, word) for text, word in (
    ("", 0), (" ", 0), ("\n", 0), (" a", 0), ("a ", 1), ("a  b", 1), ("a b ", 2), ("- a", 0), ("a -", 1), ("- -", 0), ("- ", 0), (" -", 0), ("--", 0), ("-a", 0), ("-\n", 0), ("a b -", 2), ("a - B", 1),
    ("a\n", 0), ("a\nb", 0), ("a b\nc", 1), ("a b\n", 1), ("A", 0), ("a1", 0), ("abcdefg", 0), ("a abcdefg^2", 1), ("a^", 0), ("^2", 0), ("a^^2", 0), ("a^2^2", 0), ("a^2^", 0), ("a^b", 0), ("a^-", 0), ("a^--2", 0),
    ("a^+2", 0), ("a^ 2", 0), ("a^2-", 0), ("a^2.0", 0), ("a^1_0", 0), ("a^1", 0), ("b a^1", 1), ("a^0", 0), ("a^-0", 0), ("a^00", 0), ("a^01", 0), ("a^02", 0), ("a^-02", 0), ("a^-01", 0), ("a*2", 0), ("a 2", 1), ("2", 0),
    ("a^" + "1" * 32, 0), ("a^-" + "9" * 32, 0), ("b a^" + "9" * 5000, 1), ("a^0" + "1" * 30, 0), ("d e F", 2), ("a " * 61, 61), ("a " * 60 + "A", 60))
] + [(text, BadScript, place) for text, place in (
    ("d", 0), ("a d^2 e", 1), ("names a", 0), ("aa", 0), ("a " * 60 + "a", None), ("d " * 60 + "d", None), ("a " * 59 + "d", 59), ("a^" + "9" * 31, 0), ("a b^-" + "9" * 31, 1), ("a^" + str(MOST + 1), 0), ("a^" + str(-MOST - 1), 0),
    ("a^1" + "0" * 30 + " d a^9" + "0" * 30, 1))]


def text_by_words(field):
    return "\n".join(["names " + " ".join(field[0])] + [f"apart {one} {other}" for one, other in field[1]])


def read_by_words(field, text):
    """[66], taken at its words, for a script: the script, or which word is refused."""
    words = text.split(" ")
    if words == ["-"]:
        return ()
    steps = []
    for place, word in enumerate(words):
        found = re.fullmatch("([a-z]{1,6})(?:[\\^](?!1$)(-?[1-9][0-9]{0,30}))?", word)
        if not found or word.endswith("\n"):
            return BadText, 0, place
        steps.append((found[1], int(found[2] or "1")))
    for place, (name, times) in enumerate(steps[:60]):
        if len(steps) <= 60 and (name not in field[0] or abs(times) > MOST):
            return BadScript, place
    return tuple(steps) if len(steps) <= 60 else (BadScript, None)


def read_field_by_words(text):
    """[66], taken at its words, for a field whose names are letters."""
    rows = [line.split(" ") for line in text.split("\n")]
    for line, words in enumerate(rows):
        patterns = ["names"] + ["[a-z]{1,6}"] * max(1, len(words) - 1) if line == 0 else ["apart", "[a-z]{1,6}", "[a-z]{1,6}"]
        for place, word in enumerate(words + [None]):
            if place == len(patterns) and word is None:
                break
            if place == len(patterns) or word is None or not re.fullmatch(patterns[place], word):
                return BadText, line, place
    names, pairs = tuple(rows[0][1:]), tuple(tuple(words[1:]) for words in rows[1:])
    if list(names) != sorted(set(names)) or len(names) > 6:
        return BadField, "names"
    if list(pairs) != sorted(set(pairs)) or any(one >= other or not {one, other} <= set(names) for one, other in pairs):
        return BadField, "pairs"
    return names, pairs


def told(act):
    try:
        return act()
    except PileError as error:
        return (error.__class__, *vars(error).values())


class CallTests(CallCase):
    def test_refused(self):
        self.refuses(field_text, {"field": FIELD}, {"field": FIELDS})
        self.refuses(script_text, {"field": FIELD, "deeds": GOOD}, {"field": FIELDS, "deeds": SCRIPTS})
        self.refuses(read_field, {"text": "names a"}, {"text": FIELD_TEXTS})
        self.refuses(read_script, {"field": FIELD, "text": "a"}, {"field": FIELDS, "text": SCRIPT_TEXTS})

    def test_called(self):
        for field in fields_of(ABC):
            text = self.called(field_text, {"field": field})
            self.assertIs(text.__class__, str)
            self.assertEqual(self.called(read_field, {"text": text}), field)
        for deeds in (GOOD, (), (("a", 1), ("b", -1), ("c", MOST))):
            text = self.called(script_text, {"field": FIELD, "deeds": deeds})
            self.assertIs(text.__class__, str)
            self.assertEqual(self.called(read_script, {"field": FIELD, "text": text}), deeds)

    def test_kinds_of_values(self):
        names, pairs = read_field("names a bb c\napart a bb\napart a c")
        self.assertEqual((names, pairs), (("a", "bb", "c"), (("a", "bb"), ("a", "c"))))
        self.assertEqual([value.__class__ for value in (names, pairs, pairs[0])], [tuple] * 3)
        deeds = read_script(FIELD, "a b^2")
        self.assertEqual([value.__class__ for value in (deeds, deeds[0], deeds[0][1])], [tuple, tuple, int])


class WriteTests(unittest.TestCase):
    def test_fields(self):
        for field, text in (
                (FIELD, "names a b c\napart a b"), (PATH, "names a b c d\napart a c\napart a d\napart b d"), ((("a",), ()), "names a"),
                ((("abcdef", "x"), (("abcdef", "x"),)), "names abcdef x\napart abcdef x"), ((tuple("abcdef"), ()), "names a b c d e f")):
            self.assertEqual(field_text(field), text)
            self.assertEqual(read_field(text), field)

    def test_scripts(self):
        for deeds, text in (
                ((), "-"), ((("a", 1),), "a"), ((("a", -1),), "a^-1"), ((("a", 2), ("a", 1), ("b", -30), ("c", 1)), "a^2 a b^-30 c"),
                ((("a", MOST), ("b", -MOST)), "a^1" + "0" * 30 + " b^-1" + "0" * 30), ((("b", 10),) * 60, " ".join(["b^10"] * 60)), ((("a", 1), ("a", -1)), "a a^-1")):
            self.assertEqual(script_text(FIELD, deeds), text)
            self.assertEqual(read_script(FIELD, text), deeds)

    def test_written_and_read_back(self):
        for field in fields_of(PATH[0]):
            self.assertEqual(field_text(field), text_by_words(field))
            self.assertEqual(read_field(field_text(field)), field)
        for many in range(4):
            for script in scripts_of(PATH[0], (1, -1, 2, -10, MOST), many, (1, 1, 3, 41)[many]):
                self.assertEqual(read_script(PATH, script_text(PATH, script)), script)


class ReadTests(unittest.TestCase):
    def test_scripts_by_words(self):
        words = ("a", "b^2", "c^-1", "-", "", "a^1", "d", "a\n", "a^", f"b^{10 ** 31}", f"b^{MOST}", f"c^-{MOST + 1}", "x^0", "abcdefg", "abcdef^3", "a^-0", "B")
        for many in (1, 2, 3):
            for row in product(words, repeat=many):
                text = " ".join(row)
                self.assertEqual(told(lambda: read_script(FIELD, text)), read_by_words(FIELD, text), text)

    def test_fields_by_words(self):
        words = ("names", "apart", "a", "b", "", "C", "abcdefg", "abcdef")
        firsts = ["names a b", "names abcdef b", "names b a", "names a", "names", "", "names a b abcdef"]
        lines = [" ".join(row) for many in (1, 2, 3, 4) for row in list(product(words, repeat=many))[::(1, 1, 3, 29)[many - 1]]]
        for line in lines:
            for text in [line] + [f"{first}\n{line}" for first in firsts] + [f"names a abcdef b\napart a b\n{line}"]:
                self.assertEqual(told(lambda: read_field(text)), read_field_by_words(text), text)

    def test_line_by_line(self):
        """What is lacking in one line is told ahead of what is wrong in the next one."""
        for text, line, word in (("names a b\napart a\nx", 1, 2), ("names\n", 0, 1), ("names a b\napart a b\n\nx", 2, 0)):
            self.assertEqual(told(lambda: read_field(text)), (BadText, line, word))

    def test_the_first_word(self):
        self.assertEqual(told(lambda: read_script(FIELD, "d a^0 -")), (BadText, 0, 1))
        self.assertEqual(told(lambda: read_script(FIELD, "d a - a^0")), (BadText, 0, 2))
        self.assertEqual(told(lambda: read_script(FIELD, "d a c")), (BadScript, 0))

    def test_figures(self):
        for figures in ("2", "-1", "10", "1" + "0" * 30, "-1" + "0" * 30, "9" * 30, "-" + "9" * 30):
            self.assertEqual(read_script(FIELD, f"a b^{figures}"), (("a", 1), ("b", int(figures))))
        for many in (31, 32, 4299, 4301, 9000):
            self.assertEqual(told(lambda: read_script(FIELD, "a^" + "9" * many)), (BadScript, 0) if many == 31 else (BadText, 0, 0))


if __name__ == "__main__":
    unittest.main()
