"""[65], [66] and deedpiles/desk.py."""

import re
import unittest
from random import Random

from by_words import STRANGE, fields_of, scripts_of
from checks import ABC, FIELD, MOST, CallCase
from deedpiles import middles, piles, texts, writings
from deedpiles.desk import Desk
from deedpiles.errors import BadField, BadText, PileError, TooGreat
from deedpiles.sheet import Sheet
from test_sheet import whole
from test_texts import FIELD_TEXTS

TEXT = "names a b c\napart a b"
PATH = (("a", "b", "c", "d"), (("a", "c"), ("a", "d"), ("b", "d")))
BAD = "bad line"
# Lines that are good in one way or another, by their words.
WORDS = {
    "alone": ("free", "numbers", "undo", "redo", "row", "pile", "field"), "number": ("take", "all", "ahead"),
    "one": ("least", "length", "many"), "two": ("alike", "distance"), "three": ("middle",),
}


def numbers_of(numbers):
    return " ".join(map(str, numbers)) or "none"


def slow_answer(sheet, line):
    """The answer to a line, by the functions of the other modules and the methods of a sheet."""
    field = sheet.field
    found = re.fullmatch("([a-z]+)(?: ([^\0]*))?", line)
    if not found:
        return BAD
    word, rest = found[1], found[2]
    try:
        if word in WORDS["alone"] and rest is None:
            return {
                "free": lambda: numbers_of(sheet.free()), "numbers": lambda: numbers_of(number for number, _ in sheet.row),
                "undo": lambda: ("nothing", "done")[sheet.undo()], "redo": lambda: ("nothing", "done")[sheet.redo()],
                "row": lambda: texts.steps_text(sheet.steps), "pile": lambda: texts.steps_text(sheet.least()), "field": lambda: texts.field_text(field),
            }[word]()
        if word in WORDS["number"] and rest is not None and re.fullmatch("0|[1-9][0-9]{0,29}", rest):
            if word == "take":
                return "done" if sheet.take_back(int(rest)) is None else BAD
            return numbers_of(sheet.take_all(int(rest)) if word == "all" else sheet.ahead_of(int(rest)))
        if word == "do" and rest is not None and len(texts.read_script(field, rest)) == 1:
            return str(sheet.do(texts.read_script(field, rest)[0]))
        if word in WORDS["one"] and rest is not None:
            deeds = texts.read_script(field, rest)
            act = {"least": lambda *told: texts.steps_text(piles.least_pile(*told)), "length": piles.length, "many": writings.many_writings}[word]
            return str(act(field, deeds))
        if word == "write" and rest is not None and re.fullmatch("(0|[1-9][0-9]{0,29}) [^\0]*", rest):
            number, text = rest.split(" ", 1)
            return texts.steps_text(writings.writing_at(field, texts.read_script(field, text), int(number)))
        if word in WORDS["two"] + WORDS["three"] and rest is not None and rest.count(" = ") == (2 if word == "middle" else 1):
            scripts = [texts.read_script(field, text) for text in rest.split(" = ")]
            if word == "alike":
                return "yes" if piles.are_alike(field, *scripts) else "no"
            return str(middles.distance(field, *scripts)) if word == "distance" else texts.steps_text(middles.middle_of(field, *scripts))
    except (PileError, TooGreat):
        pass
    return BAD


class DeskCase(CallCase):
    def answers(self, desk, *lines):
        """Lines with their answers, one behind the other."""
        for line, told in lines:
            answer = desk.say(line)
            self.assertEqual(answer, told, line)
            self.assertIs(answer.__class__, str)

    def bad(self, desk, *lines):
        """Lines that are answered with "bad line" and change nothing."""
        before, same = whole(desk.sheet), desk.sheet
        for line in lines:
            self.assertEqual(desk.say(line), BAD, line)
            self.assertEqual(desk.say(line=line), BAD, line)
        self.assertEqual(whole(desk.sheet), before)
        self.assertIs(desk.sheet, same)


def used_desk():
    """A desk on which something stands, something can be undone, and something done again."""
    desk = Desk(TEXT)
    for line in ("do b^2", "do a", "do c^-1", "do a^7", "undo"):
        desk.say(line)
    return desk


class MadeTests(DeskCase):
    def test_refused(self):
        self.refuses(Desk, {"text": TEXT}, {"text": FIELD_TEXTS})
        self.refused(lambda: Desk(None), BadText, None, None)
        self.refused(lambda: Desk(TEXT + "\n"), BadText, 2, 0)
        self.refused(lambda: Desk("names b a"), BadField, "names")

    def test_sheet(self):
        for field in fields_of(ABC):
            for desk in (Desk(texts.field_text(field)), Desk(text=texts.field_text(field))):
                self.assertIs(desk.sheet.__class__, Sheet)
                self.assertTrue(desk.sheet == Sheet(field))
                self.assertIs(desk.sheet, desk.sheet)
        with self.assertRaises(AttributeError):
            desk.sheet = Sheet(FIELD)

    def test_the_sheet_itself(self):
        desk = Desk(TEXT)
        self.assertEqual(desk.sheet.do(("a", 5)), 0)
        self.answers(desk, ("row", "a^5"), ("do b", "1"))
        self.assertEqual(desk.sheet.row, ((0, ("a", 5)), (1, ("b", 1))))
        with desk.sheet.trial():
            self.answers(desk, ("all 0", "0"), ("row", "b"), ("undo", "done"), ("undo", "done"))
        self.answers(desk, ("row", "a^5 b"), ("redo", "nothing"), ("undo", "done"))
        self.assertIs(desk.sheet.redo(), True)

    def test_operators(self):
        desk = Desk(TEXT)
        self.assertFalse(desk == desk.sheet or desk == TEXT or desk == 0)
        self.assertTrue(desk == desk and desk != TEXT)
        for act in (len, iter, lambda one: one + 1, lambda one: one * one, lambda one: one < one, lambda one: 0 in one, lambda one: one[0], lambda one: ~one):
            with self.assertRaises(TypeError):
                act(desk)


class LineTests(DeskCase):
    def test_example(self):
        desk = Desk("names a b c\napart a b")
        told = [desk.say(line) for line in ("do b^2", "do a", "do c^-1", "pile", "free", "ahead 0", "take 0", "all 0", "row", "undo", "numbers")]
        self.assertEqual(told, ["0", "1", "2", "a b^2 c^-1", "2", "2", "bad line", "2 0", "a", "done", "0 1 2"])

    def test_of_an_empty_sheet(self):
        self.answers(Desk(TEXT), ("free", "none"), ("numbers", "none"), ("row", "-"), ("pile", "-"), ("undo", "nothing"), ("redo", "nothing"), ("field", TEXT),
                     ("take 0", BAD), ("all 0", BAD), ("ahead 0", BAD), ("do a^-1", "0"), ("ahead 0", "none"), ("undo", "done"), ("redo", "done"), ("row", "a^-1"))

    def test_deeds(self):
        self.answers(
            Desk(TEXT), ("do a", "0"), ("do a^-1", "1"), ("row", "a a^-1"), ("pile", "-"), ("numbers", "0 1"), ("free", "1"), ("ahead 0", "1"), ("take 0", BAD), ("take 1", "done"),
            ("take 0", "done"), ("numbers", "none"), ("do c^5", "2"), ("do b", "3"), ("do a^-2", "4"), ("ahead 2", "3 4"), ("free", "3 4"), ("all 2", "4 3 2"), ("row", "-"), ("undo", "done"),
            ("row", "c^5 b a^-2"), ("pile", "c^5 a^-2 b"), ("all 3", "3"), ("redo", "nothing"), ("undo", "done"), ("redo", "done"), ("numbers", "2 4"), ("do a", "5"), ("undo", "done"), ("do b", "5"))

    def test_fields(self):
        for field in fields_of(PATH[0]):
            desk = Desk(texts.field_text(field))
            self.answers(desk, ("field", texts.field_text(field)))

    def test_scripts(self):
        self.answers(
            used_desk(), ("least b a", "a b"), ("least a^-1 c a", "a^-1 c a"), ("least -", "-"), ("least a b^5 a^-1 b^-5", "-"), ("length a^5 b c^-7", "13"), ("length -", "0"), ("length a a^-1", "0"), ("many a^2 b", "3"),
            ("many -", "1"), ("many a^200", "1"), ("many a^201", BAD), (f"many a^{MOST}", BAD), ("many a^100 b^100", str(writings.many_writings(FIELD, (("a", 100), ("b", 100))))), ("write 0 b a^2", "a a b"),
            ("write 2 b a^2", "b a a"), ("write 3 b a^2", BAD), ("write 0 -", "-"), ("write 1 -", BAD), ("write 0 a^-2", "a^-1 a^-1"), ("write 0 a^201", BAD), ("alike a b = b a", "yes"), ("alike a c = c a", "no"), ("alike - = -", "yes"),
            ("alike - = a", "no"), ("distance a^5 b^2 = b a^7", "3"), ("distance - = -", "0"), ("distance a^2 = -", "2"), ("middle a^5 c = a^3 b^2 = b^7 a^9", "a^5 b^2"), ("middle - = - = -", "-"), ("middle a = a^2 = a^3", "a^2"),
            (f"least a^{MOST} b a^{MOST}", f"a^{2 * MOST} b"), (f"length a^{MOST} a^{MOST}", str(2 * MOST)), (f"distance a^{MOST} = a^-{MOST}", str(2 * MOST)), ("row", "b^2 a c^-1"), ("redo", "done"), ("row", "b^2 a c^-1 a^7"))

    def test_60_steps(self):
        desk = Desk(TEXT)
        row = " ".join(["a", "b^2", "c^-3"] * 20)
        self.answers(desk, *[(f"do {word}", str(number)) for number, word in enumerate(row.split(" "))])
        self.answers(desk, ("row", row), ("numbers", " ".join(map(str, range(60)))), (f"least {row}", row), (f"length {row}", "120"), ("ahead 57", "59"))
        self.bad(desk, "do a", "do a b", f"least {row} a", f"alike {row} = {row} a", f"middle {row} = {row} = {row} a")
        self.answers(desk, (f"alike {row} = {row}", "yes"), ("do a", BAD), ("take 59", "done"), ("do a", "60"), ("do a", BAD), ("undo", "done"), ("undo", "done"), ("undo", "done"), ("do c", "59"))


class BadTests(DeskCase):
    def test_any_value(self):
        for value in STRANGE + (b"undo", ("undo",), ["undo"], Desk(TEXT), 10 ** 999):
            self.bad(used_desk(), value)
            self.bad(Desk(TEXT), value)

    def test_words(self):
        self.bad(used_desk(), "", " ", "\n", "-", "a", "done", "none", "undos", "Undo", "und", "u", "say", "sheet", "steps", "copy", "trial", "take_back 0", "take_all 2", "ahead_of 0", "bad line", "numbers 0 1 2",
                 "names a b c", "a b", "=", " = ", "0", "write0 a", "do_a", "undo\n", "\nundo", "undo\nundo")

    def test_blanks(self):
        self.bad(used_desk(), " undo", "undo ", "undo  ", "redo ", " redo", "free ", "numbers ", "row ", "pile ", "field ", " do a", "do  a", "do a ", "do  ", "do ", "do", "take  2", "take 2 ", " take 2", "take ", "take", "all  2", "all 2 ", "ahead  0",
                 "ahead 0 ", "ahead", "all", "least", "least ", "least  a", "least a ", "least a  b", "length", "length ", "length  -", "many", "many ", "many  a", "write", "write ", "write 0", "write 0 ", "write  0 a", "write 0  a", "write 0 a ", " write 0 a",
                 "alike", "alike ", "alike  a = a", "alike a  = a", "alike a =  a", "alike a = a ", "distance  a = a", "middle a = a  = a", "middle a = a = a ")

    def test_steps(self):
        self.bad(used_desk(), "do -", "do a b", "do a a", "do a -", "do - a", "do d", "do a^0", "do a^1", "do a^-0", "do a^02", "do A", "do 1", "do a = b", "do a^" + "1" * 32, f"do a^{MOST + 1}", f"do a^-{MOST + 1}", "do a\n", "do a\nb", "do do a", "do ('a', 1)")

    def test_numbers(self):
        desk = used_desk()
        figures = ["-1", "+2", "02", "00", "-0", "2.0", "2_0", "0x2", "", "a", "b^2", "2 2", "0 1", "2\n", "none", "2a", "3", "4", "7", "9" * 30, "9" * 31, "1" + "0" * 30, "0" * 30, "0" * 31, "1" * 5000]
        self.bad(desk, *[f"{word} {number}" for word in WORDS["number"] for number in figures])
        self.bad(desk, *[f"write {number} a^2 b" for number in figures])
        self.bad(desk, "take 0", "take 1")
        self.answers(desk, ("ahead 2", "none"), ("take 2", "done"))

    def test_numbers_of_30_figures(self):
        """There are more writings than that; but only numbers of at most 30 figures can be told."""
        desk = Desk(TEXT)
        deeds = (("a", 100), ("b", 100))
        for number in (10 ** 29, 10 ** 30 - 1):
            self.answers(desk, (f"write {number} a^100 b^100", texts.steps_text(writings.writing_at(FIELD, deeds, number))))
        for number in (10 ** 30, 10 ** 31, 10 ** 58):
            self.assertLess(number, writings.many_writings(FIELD, deeds))
            self.bad(desk, f"write {number} a^100 b^100")

    def test_scripts(self):
        self.bad(used_desk(), "least d", "least a^0", "least a -", "least a = b", "least a\n", "length a^1", "length d", "many d", "many A", "many a = a", "write 0 d", "write 0 a^0", "write a 0", "write 0 a = a", "write -1 a", "write a", f"least a^{MOST + 1}",
                 "many a^150 c^51", "least " + " ".join("a" * 61), "write 0 a^150 c^51")

    def test_several_scripts(self):
        self.bad(used_desk(), "alike a", "alike a =", "alike = a", "alike a = ", "alike  = a", "alike a=a", "alike a =a", "alike a= a", "alike a = b = c", "alike a = = b", "alike a == b", "alike a = d", "alike d = a", "alike a = a^0", "alike a b", "alike = ", "alike  = ",
                 "distance a", "distance a = b = c", "distance a = ", "distance a = d", "middle a", "middle a = b", "middle a = b = c = a", "middle a = b = ", "middle a = b =", "middle a = = b", "middle a = b = d", "middle - = - = - -", "middle  = a = b", "alike a\n= b", "alike a =\nb")

    def test_changes_nothing(self):
        desk = used_desk()
        self.bad(desk, "take 0", "take 99", "all 99", "do d", "undo 1", "redo 1", None)
        self.answers(desk, ("redo", "done"), ("row", "b^2 a c^-1 a^7"), ("redo", "nothing"))


class SlowTests(DeskCase):
    def lines(self, random, sheet):
        """A line, mostly a good one, and sometimes the same with a change."""
        names, numbers = sheet.field[0], [number for number, _ in sheet.row] + [0]
        word = random.choice(("do",) * 8 + ("undo", "redo") * 2 + WORDS["alone"] + WORDS["number"] * 2 + WORDS["one"] + WORDS["two"] + WORDS["three"] + ("write",))
        scripts = [" ".join(random.choice(names) + random.choice(("", "^-1", "^2")) for _ in range(random.randrange(5))) or "-" for _ in range(3)]
        rest = {"do": random.choice(names) + random.choice(("", "^-1", "^3")), "write": f"{random.randrange(4)} {scripts[0]}"}
        rest |= {name: scripts[0] for name in WORDS["one"]} | {name: " = ".join(scripts[:2]) for name in WORDS["two"]}
        rest |= {"middle": " = ".join(scripts)} | {name: str(random.choice(numbers)) for name in WORDS["number"]}
        line = f"{word} {rest[word]}" if word in rest else word
        at = random.randrange(len(line) + 1)
        return random.choice((line,) * 6 + (line[:at] + random.choice(" -^=0a\n") + line[at:], line[:at] + line[at + 1:]))

    def test_rows_of_lines(self):
        words = {}
        for seed, field in enumerate(list(fields_of(PATH[0])) + list(fields_of(ABC)) * 3):
            random, desk, sheet = Random(seed), Desk(texts.field_text(field)), Sheet(field)
            for _ in range(60):
                line = self.lines(random, sheet)
                told = slow_answer(sheet, line)
                self.assertEqual(desk.say(line), told, (seed, line))
                self.assertTrue(desk.sheet == sheet, (seed, line))
                word = (line.partition(" ")[0], told == BAD)
                words[word] = words.get(word, 0) + 1
            self.assertEqual(whole(desk.sheet), whole(sheet))
        for word in sum(WORDS.values(), ("do", "write")):
            self.assertGreater(words.get((word, False), 0), 20, word)
        self.assertGreater(sum(many for (_, is_bad), many in words.items() if is_bad), 200)

    def test_scripts_by_functions(self):
        desk = Desk(texts.field_text(PATH))
        scripts = [script for many in (1, 2, 3) for script in scripts_of(PATH[0], (1, -1, 2), many, (2, 7, 41)[many - 1])] + [()]
        for at, one in enumerate(scripts):
            for other in scripts[at % 3::3]:
                lines = [f"{word} {texts.script_text(PATH, one)} = {texts.script_text(PATH, other)}" for word in WORDS["two"]]
                lines += [f"middle {texts.script_text(PATH, one)} = {texts.script_text(PATH, other)} = {texts.script_text(PATH, scripts[at * 7 % len(scripts)])}"]
                for line in lines:
                    self.assertEqual(desk.say(line), slow_answer(desk.sheet, line), line)
            for word in WORDS["one"] + ("write 0", "write 1", "write 5"):
                line = f"{word} {texts.script_text(PATH, one)}"
                self.assertEqual(desk.say(line), slow_answer(desk.sheet, line), line)


if __name__ == "__main__":
    unittest.main()
