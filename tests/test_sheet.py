"""[4], [64] and deedpiles/sheet.py."""

import unittest
from copy import deepcopy
from itertools import product
from random import Random

from by_words import STRANGE, apart, fields_of, least_of, taken_back_of
from checks import ABC, FIELD, FIELDS, MOST, CallCase
from deedpiles.errors import BadNumber, BadScript, Held, PileError, TooGreat
from deedpiles.sheet import Sheet, under

TIGHT = (ABC, ())
LOOSE = (ABC, (("a", "b"), ("a", "c"), ("b", "c")))
PATH = (("a", "b", "c", "d"), (("a", "c"), ("a", "d"), ("b", "d")))
NO_STEPS = STRANGE + (("a",), ("a", 0), ("a", True), ("a", "1"), ("d", 1), ("a", 1, 1), ["a", 1], ("a", MOST + 1), ("a", -MOST - 1), ("a", 10 ** 999), (("a", 1),), ("a", None))
NO_NUMBERS = STRANGE + (-2, 99, 10 ** 999, "0", (0,), [0])


class Slow:
    """[64], taken at its words: each step looks at all others, and all that is undone is kept whole."""

    def __init__(self, field):
        self.field = field
        self.row, self.count = [], 0
        self.past, self.future = [], []

    def number(self, value):
        if value.__class__ is not int or value not in [number for number, _ in self.row]:
            raise BadNumber(value)

    def is_held_by(self, one, other):
        """Whether a later one touches it, or holds one that does, and so on."""
        places = {number: at for at, (number, _) in enumerate(self.row)}
        later = [number for number, (name, _) in self.row[places[one] + 1:]
                 if not apart(self.field, name, self.row[places[one]][1][0])]
        return other in later or any(self.is_held_by(number, other) for number in later)

    def ahead_of(self, one):
        self.number(one)
        return tuple(sorted(number for number, _ in self.row if self.is_held_by(one, number)))

    def free(self):
        return tuple(number for number, _ in self.row if not self.ahead_of(number))

    def keep(self):
        self.past.append((list(self.row), self.count))
        self.future = []

    def do(self, step):
        if step.__class__ is not tuple or len(step) != 2 or step[0] not in self.field[0] or step[1].__class__ is not int \
                or step[1] == 0 or abs(step[1]) > MOST:
            raise BadScript(0)
        if len(self.row) == 60:
            raise TooGreat(60)
        self.keep()
        self.row.append((self.count, step))
        self.count += 1
        return self.count - 1

    def take_back(self, number):
        if self.ahead_of(number):
            raise Held(self.ahead_of(number)[0])
        self.keep()
        self.row = [item for item in self.row if item[0] != number]

    def take_all(self, number):
        numbers = self.ahead_of(number)[::-1] + (number,)
        self.keep()
        self.row = [item for item in self.row if item[0] not in numbers]
        return numbers

    def undo(self):
        return self.go(self.past, self.future)

    def redo(self):
        return self.go(self.future, self.past)

    def go(self, where, back):
        if not where:
            return False
        back.append((list(self.row), self.count))
        self.row, self.count = where.pop()
        return True


def told(act):
    """What is returned, or raised."""
    try:
        return act()
    except (PileError, TooGreat) as error:
        return error.__class__, list(vars(error).values())


def some_deed(random, slow):
    """The name of a method with what it is passed: mostly such that are not refused."""
    numbers = [number for number, _ in slow.row] + [slow.count]
    word = random.choice(("do", "do", "do", "take_back", "take_back", "take_all", "undo", "undo", "redo", "redo", "free", "ahead_of", "wrong"))
    if word == "do":
        return word, ((random.choice(slow.field[0]), random.choice((1, -1, 2, MOST, -MOST))),)
    if word == "take_back":
        return word, (random.choice(list(slow.free()) + numbers[-1:]),)
    if word in ("take_all", "ahead_of"):
        return word, (random.choice(numbers),)
    if word == "wrong":
        return random.choice(("do", "take_back", "take_all", "ahead_of")), (random.choice(STRANGE),)
    return word, ()


def sheet_of(field, *steps):
    sheet = Sheet(field)
    for step in steps:
        sheet.do(step)
    return sheet


def whole(sheet):
    """All that a sheet tells, also what can be undone, and done again, from here."""
    seen = [look(sheet)]
    for act in (Sheet.undo, Sheet.redo):
        other = sheet.copy()
        while act(other):
            seen.append((look(other), number_next(other)))
        seen.append("end")
    return seen + [number_next(sheet)]


def look(sheet):
    return sheet.field, sheet.row, sheet.steps, len(sheet), sheet.free(), sheet.least()


def number_next(sheet):
    """The number that the next step gets."""
    other = sheet.copy()
    if len(other) == 60:
        other.take_back(other.free()[0])
    return other.do((other.field[0][0], 1))


class SheetCase(CallCase):
    def changes_nothing(self, sheet, act, kind, *values):
        """A call is refused, and the sheet is what it was, also what can be done again."""
        before = whole(sheet)
        self.refused(act, kind, *values)
        self.assertEqual(whole(sheet), before)


class CallTests(SheetCase):
    def test_refused_fields(self):
        self.refuses(Sheet, {"field": FIELD}, {"field": FIELDS})

    def test_new(self):
        for field in fields_of(ABC):
            for sheet in (Sheet(field), Sheet(field=field)):
                self.assertIs(sheet.__class__, Sheet)
                self.assertEqual((sheet.field, sheet.row, sheet.steps, len(sheet)), (field, (), (), 0))
                self.assertEqual((sheet.least(), sheet.free()), ((), ()))
                self.assertEqual((sheet.undo(), sheet.redo()), (False, False))

    def test_by_name(self):
        sheet = sheet_of(FIELD, ("a", 1), ("b", 2))
        self.assertEqual(sheet.do(step=("c", 3)), 2)
        self.assertEqual(sheet.ahead_of(number=0), (2,))
        self.assertEqual(sheet.take_all(number=0), (2, 0))
        self.assertIs(sheet.take_back(number=1), None)
        self.assertEqual(sheet.row, ())
        self.assertEqual(under(deed=lambda one: one.do(("a", 1)), manager=sheet.trial()), 3)
        self.assertEqual(under(manager=sheet.trial(), deed=len), 0)

    def test_kinds_of_values(self):
        sheet = sheet_of(FIELD, ("a", 1), ("c", 2), ("b", 1))
        for value in (sheet.row, sheet.steps, sheet.least(), sheet.free(), sheet.ahead_of(0), sheet.copy().take_all(0), sheet.row[0], sheet.row[0][1]):
            self.assertIs(value.__class__, tuple)
        self.assertIs(sheet.undo(), True)
        self.assertIs(sheet.redo(), True)
        self.assertIs(sheet.redo(), False)
        self.assertIs(sheet.do(("a", 1)).__class__, int)
        self.assertIs(sheet.take_back(3), None)
        self.assertIs(sheet.copy().__class__, Sheet)
        self.assertIs(sheet.least().__class__, tuple)

    def test_properties_are_not_set(self):
        sheet = sheet_of(FIELD, ("a", 1))
        for name in ("field", "row", "steps"):
            with self.assertRaises(AttributeError):
                setattr(sheet, name, ())
        self.assertEqual(sheet.row, ((0, ("a", 1)),))

    def test_numbers_in_it(self):
        sheet = sheet_of(FIELD, ("a", 1), ("b", 2), ("c", 3))
        sheet.take_all(1)
        self.assertEqual([number in sheet for number in (0, 1, 2, 3)], [True, False, False, False])
        sheet.do(("b", 1))
        self.assertEqual([number in sheet for number in (0, 1, 2, 3, 4)], [True, False, False, True, False])
        for value in NO_NUMBERS + (("a", 1), (0, ("a", 1)), "a", sheet):
            self.assertIs(value in sheet, value.__class__ is int and value == 0, value)

    def test_no_iteration(self):
        for sheet in (Sheet(FIELD), sheet_of(FIELD, ("a", 1), ("b", 2))):
            for act in (iter, list, tuple, set, sorted, dict, sum, reversed, lambda one: [item for item in one], lambda one: [*one], lambda one: one[0]):
                with self.assertRaises(TypeError):
                    act(sheet)

    def test_equal(self):
        one, other = sheet_of(FIELD, ("a", 1), ("b", 2)), sheet_of(FIELD, ("a", 1), ("b", 2))
        self.assertIs(one == other, True)
        self.assertIs(one != other, False)
        other.do(("c", 1))
        self.assertIs(one == other, False)
        other.take_back(2)
        self.assertIs(one == other, True)
        for unlike in (Sheet(FIELD), sheet_of(FIELD, ("a", 1)), sheet_of(FIELD, ("b", 2), ("a", 1)), sheet_of(FIELD, ("a", 1), ("b", 3)), sheet_of(TIGHT, ("a", 1), ("b", 2))):
            self.assertIs(one == unlike, False)
            self.assertIs(one != unlike, True)
        # The numbers count too: here they begin behind what was taken back.
        late = sheet_of(FIELD, ("a", 1), ("a", 1), ("b", 2))
        late.take_back(1)
        self.assertEqual(late.steps, one.steps)
        self.assertFalse(late == one)
        self.assertTrue(Sheet(FIELD) == Sheet(FIELD) and Sheet(FIELD) != Sheet(TIGHT))
        for value in STRANGE + (one.row, one.field, (one.field, one.row), object()):
            self.assertFalse(one == value or value == one)
            self.assertTrue(one != value and value != one)

    def test_operators(self):
        sheet = sheet_of(FIELD, ("a", 1))
        for act in (lambda one, other: one + other, lambda one, other: one * other, lambda one, other: one & other, lambda one, other: one < other,
                    lambda one, other: one >= other, lambda one, other: one - other, lambda one, other: one | other):
            for value in STRANGE + (sheet,):
                for both in ((sheet, value), (value, sheet)):
                    with self.assertRaises(TypeError):
                        act(*both)
        for act in (hash, abs, lambda one: ~one, lambda one: -one):
            with self.assertRaises(TypeError):
                act(sheet)


class DoTests(SheetCase):
    def test_rows(self):
        sheet = Sheet(FIELD)
        for number, step in enumerate((("b", 2), ("a", MOST), ("c", -MOST), ("a", -1), ("a", 1))):
            self.assertEqual(sheet.do(step), number)
        self.assertEqual(sheet.row, ((0, ("b", 2)), (1, ("a", MOST)), (2, ("c", -MOST)), (3, ("a", -1)), (4, ("a", 1))))
        self.assertEqual(sheet.steps, (("b", 2), ("a", MOST), ("c", -MOST), ("a", -1), ("a", 1)))
        self.assertEqual(sheet.least(), (("a", MOST), ("b", 2), ("c", -MOST)))
        self.assertEqual((len(sheet), sheet.free()), (5, (4,)))

    def test_no_steps(self):
        for sheet in (Sheet(FIELD), undone(FIELD)):
            for value in NO_STEPS:
                before = deepcopy(value)
                self.changes_nothing(sheet, lambda: sheet.do(value), BadScript, 0)
                self.changes_nothing(sheet, lambda: sheet.do(step=value), BadScript, 0)
                self.assertEqual(value, before)

    def test_60_steps_and_more(self):
        sheet = Sheet(FIELD)
        for number in range(60):
            self.assertEqual(sheet.do((ABC[number % 3], number + 1)), number)
        self.assertEqual(len(sheet), 60)
        self.changes_nothing(sheet, lambda: sheet.do(("a", 1)), TooGreat, 60)
        self.changes_nothing(sheet, lambda: sheet.do(("a", 0)), BadScript, 0)
        self.changes_nothing(sheet, lambda: sheet.do(None), BadScript, 0)
        sheet.take_back(59)
        self.assertEqual(sheet.do(("b", 1)), 60)
        self.changes_nothing(sheet, lambda: sheet.do(("b", 1)), TooGreat, 60)
        self.assertTrue(sheet.undo() and sheet.undo() and sheet.undo())
        self.changes_nothing(sheet, lambda: sheet.do(("a", True)), BadScript, 0)
        self.assertEqual((len(sheet), sheet.redo(), len(sheet)), (59, True, 60))
        self.changes_nothing(sheet, lambda: sheet.do(("b", 1)), TooGreat, 60)
        self.assertIs(sheet.redo(), True)

    def test_more_than_60_that_do_not_stand(self):
        sheet = Sheet(LOOSE)
        for number in range(200):
            self.assertEqual(sheet.do(("a", 1)), number)
            if number % 2:
                sheet.take_back(number)
                sheet.take_all(number - 1)
        self.assertEqual((len(sheet), sheet.do(("b", 1))), (0, 200))

    def test_many_deeds(self):
        sheet = Sheet(LOOSE)
        for number in range(1500):
            sheet.do(("a", 1))
            sheet.take_back(number)
        for _ in range(3000):
            self.assertIs(sheet.undo(), True)
        self.assertIs(sheet.undo(), False)
        for _ in range(3000):
            self.assertIs(sheet.redo(), True)
        self.assertEqual((sheet.redo(), len(sheet), sheet.do(("b", 1))), (False, 0, 1500))


def undone(field):
    """A sheet on which something can be undone, and something done again."""
    sheet = sheet_of(field, ("a", 1), ("c", 2), ("b", -1), ("a", 5))
    sheet.undo()
    return sheet


class HeldTests(SheetCase):
    def test_some(self):
        sheet = sheet_of(PATH, ("d", 1), ("a", 1), ("b", 2), ("c", 3), ("d", 4), ("a", 5))
        # b touches a and c, c touches b and d.
        self.assertEqual([sheet.ahead_of(number) for number in range(6)], [(3, 4), (2, 3, 4, 5), (3, 4, 5), (4,), (), ()])
        self.assertEqual(sheet.free(), (4, 5))
        self.changes_nothing(sheet, lambda: sheet.take_back(0), Held, 3)
        self.changes_nothing(sheet, lambda: sheet.take_back(1), Held, 2)
        self.changes_nothing(sheet, lambda: sheet.take_back(3), Held, 4)
        self.assertIs(sheet.take_back(4), None)
        self.assertEqual(sheet.free(), (3, 5))
        self.assertEqual(sheet.ahead_of(0), (3,))
        self.assertEqual(sheet.take_all(2), (5, 3, 2))
        self.assertEqual(sheet.row, ((0, ("d", 1)), (1, ("a", 1))))
        self.assertEqual(sheet.take_all(1), (1,))
        self.assertEqual(sheet.take_all(0), (0,))
        self.assertEqual(sheet.row, ())

    def test_its_own_name_holds(self):
        sheet = sheet_of(LOOSE, ("a", 1), ("b", 1), ("a", -1))
        self.assertEqual((sheet.ahead_of(0), sheet.ahead_of(1), sheet.free()), ((2,), (), (1, 2)))
        self.changes_nothing(sheet, lambda: sheet.take_back(0), Held, 2)
        self.assertEqual(sheet.take_all(0), (2, 0))
        self.assertEqual(sheet.steps, (("b", 1),))

    def test_no_numbers(self):
        for sheet in (Sheet(FIELD), undone(FIELD)):
            for act in (sheet.ahead_of, sheet.take_back, sheet.take_all):
                for value in NO_NUMBERS + (3, 4, -1):
                    if not value.__class__ is int or value not in sheet:
                        before = deepcopy(value)
                        self.changes_nothing(sheet, lambda: act(value), BadNumber, value)
                        self.changes_nothing(sheet, lambda: act(number=value), BadNumber, value)
                        self.assertEqual(value, before)

    def test_alike(self):
        """What stands then is alike to what stood with the taking back of the step behind it."""
        random = Random(5)
        for number, field in enumerate(list(fields_of(PATH[0])) * 2):
            sheet = sheet_of(field, *[(random.choice(PATH[0]), random.choice((1, -1, 2))) for _ in range(8)])
            for taken in sheet.free():
                other = sheet.copy()
                step = dict(sheet.row)[taken]
                other.take_back(taken)
                self.assertEqual(other.least(), least_of(field, sheet.steps + taken_back_of((step,))))
            for taken, _ in sheet.row:
                other = sheet.copy()
                steps = dict(sheet.row)
                numbers = other.take_all(taken)
                self.assertEqual(other.least(), least_of(field, sheet.steps + tuple((steps[at][0], -steps[at][1]) for at in numbers)))


class UndoTests(SheetCase):
    def test_some(self):
        sheet = Sheet(FIELD)
        self.assertEqual((sheet.undo(), sheet.redo()), (False, False))
        sheet.do(("a", 1))
        sheet.do(("c", 1))
        sheet.take_all(0)
        self.assertEqual((sheet.row, sheet.undo()), ((), True))
        self.assertEqual(sheet.row, ((0, ("a", 1)), (1, ("c", 1))))
        self.assertEqual((sheet.undo(), sheet.row), (True, ((0, ("a", 1)),)))
        self.assertEqual((sheet.redo(), sheet.redo(), sheet.redo()), (True, True, False))
        self.assertEqual((sheet.row, sheet.undo(), sheet.undo(), sheet.undo(), sheet.undo()), ((), True, True, True, False))
        self.assertEqual((sheet.row, sheet.redo()), ((), True))
        self.assertEqual(sheet.row, ((0, ("a", 1)),))

    def test_numbers_begin_as_they_did(self):
        sheet = sheet_of(FIELD, ("a", 1), ("b", 1))
        sheet.undo()
        self.assertEqual(sheet.do(("c", 1)), 1)
        sheet.take_back(1)
        self.assertEqual(sheet.do(("c", 2)), 2)
        sheet.undo()
        sheet.undo()
        self.assertEqual(sheet.row, ((0, ("a", 1)), (1, ("c", 1))))
        self.assertEqual(sheet.do(("c", 3)), 2)

    def test_redo_behind_another_deed(self):
        for act in (lambda sheet: sheet.do(("b", 1)), lambda sheet: sheet.take_back(0), lambda sheet: sheet.take_all(0)):
            sheet = sheet_of(FIELD, ("a", 1), ("c", 1), ("b", 2))
            self.assertTrue(sheet.undo() and sheet.undo())
            act(sheet)
            self.assertIs(sheet.redo(), False)
            self.assertIs(sheet.undo(), True)
            self.assertIs(sheet.redo(), True)
            self.assertIs(sheet.redo(), False)

    def test_looking_changes_nothing(self):
        sheet = undone(FIELD)
        sheet.free(), sheet.ahead_of(0), sheet.least(), sheet.row, sheet.steps, len(sheet), 0 in sheet, sheet == sheet, sheet.copy(), sheet.trial()
        self.assertEqual((sheet.redo(), sheet.steps[-1]), (True, ("a", 5)))


class SlowTests(SheetCase):
    def same(self, sheet, slow, places):
        row = tuple(slow.row)
        self.assertEqual((sheet.field, sheet.row, len(sheet)), (slow.field, row, len(row)), places)
        self.assertEqual(sheet.steps, tuple(step for _, step in row))
        self.assertEqual(sheet.free(), slow.free())
        self.assertEqual(sheet.least(), least_of(slow.field, sheet.steps))
        self.assertEqual([number in sheet for number in range(-1, slow.count + 1)],
                         [number in dict(row) for number in range(-1, slow.count + 1)])

    def test_rows_of_deeds(self):
        words = {}
        for seed, field in enumerate(list(fields_of(PATH[0])) + list(fields_of(ABC)) * 4):
            random, sheet, slow = Random(seed), Sheet(field), Slow(field)
            for place in range(40):
                word, values = some_deed(random, slow)
                one = told(lambda: getattr(sheet, word)(*values))
                other = told(lambda: getattr(slow, word)(*values))
                self.assertEqual(one, other, (seed, place, word, values))
                self.assertIs(one.__class__, other.__class__)
                self.same(sheet, slow, (seed, place, word, values))
                words[word, one.__class__, one is True] = words.get((word, one.__class__, one is True), 0) + 1
                for number, _ in slow.row:
                    self.assertEqual(sheet.ahead_of(number), slow.ahead_of(number))
        self.assertGreater(min(words.values()), 20, words)

    def test_copies_and_trials(self):
        for seed, field in enumerate(list(fields_of(PATH[0]))):
            random, sheet, slow = Random(seed), Sheet(field), Slow(field)
            for place in range(12):
                word, values = some_deed(random, slow)
                told(lambda: getattr(sheet, word)(*values))
                told(lambda: getattr(slow, word)(*values))
                copied, apart_from_it = sheet.copy(), deepcopy(slow)
                before = whole(sheet)
                with sheet.trial() as same:
                    self.assertIs(same, sheet)
                    for _ in range(6):
                        word, values = some_deed(random, apart_from_it)
                        one = told(lambda: getattr(copied, word)(*values))
                        self.assertEqual(one, told(lambda: getattr(apart_from_it, word)(*values)))
                        self.assertEqual(one, told(lambda: getattr(same, word)(*values)))
                        self.same(copied, apart_from_it, (seed, place))
                        self.same(sheet, apart_from_it, (seed, place))
                    self.assertEqual(whole(copied), whole(sheet))
                self.assertEqual(whole(sheet), before)
                self.same(sheet, slow, (seed, place))


class CopyTests(SheetCase):
    def test_goes_on_by_itself(self):
        sheet = undone(FIELD)
        other = sheet.copy()
        self.assertTrue(other == sheet and other is not sheet)
        self.assertEqual(whole(other), whole(sheet))
        before = whole(sheet)
        other.do(("b", 7))
        other.take_all(0)
        self.assertEqual(whole(sheet), before)
        before = whole(other)
        self.assertIs(sheet.redo(), True)
        self.assertIs(other.redo(), False)
        sheet.undo(), sheet.undo(), sheet.do(("a", 9))
        self.assertEqual(whole(other), before)
        self.assertIs(other.undo(), True)
        self.assertEqual(other.steps[-1], ("b", 7))

    def test_of_a_copy(self):
        sheet = sheet_of(FIELD, ("a", 1))
        one = sheet.copy()
        one.do(("b", 1))
        other = one.copy()
        one.undo()
        other.do(("c", 1))
        self.assertEqual([len(same) for same in (sheet, one, other)], [1, 1, 3])
        self.assertEqual(number_next(one), 1)
        self.assertTrue(one == sheet)


class Stop(Exception):
    pass


class TrialTests(SheetCase):
    def test_ends_by_itself(self):
        sheet = undone(FIELD)
        before = whole(sheet)
        with sheet.trial() as same:
            self.assertIs(same, sheet)
            self.assertEqual(same.do(("b", 3)), 3)
            same.take_all(0)
            self.assertEqual(sheet.steps, ())
        self.assertEqual(whole(sheet), before)
        self.assertIs(sheet.redo(), True)

    def test_ends_by_an_exception(self):
        for error in (Stop("it"), ValueError(1), KeyError("a"), BadNumber(7), TooGreat(60), OverflowError(), StopIteration(), KeyboardInterrupt(), SystemExit(0), GeneratorExit(), AssertionError()):
            sheet = undone(FIELD)
            before = whole(sheet)
            with self.assertRaises(error.__class__) as caught:
                with sheet.trial() as same:
                    same.do(("b", 3))
                    same.undo()
                    same.undo()
                    raise error
            self.assertIs(caught.exception, error)
            self.assertEqual(whole(sheet), before)

    def test_ends_by_what_the_sheet_refuses(self):
        sheet = undone(FIELD)
        before = whole(sheet)
        for act, kind in ((lambda one: one.take_back(0), Held), (lambda one: one.do(None), BadScript), (lambda one: one.take_all(77), BadNumber)):
            with self.assertRaises(kind):
                with sheet.trial() as same:
                    same.do(("b", 3))
                    act(same)
            self.assertEqual(whole(sheet), before)

    def test_ends_by_break_and_return(self):
        sheet = undone(FIELD)
        before = whole(sheet)
        for _ in range(2):
            with sheet.trial():
                sheet.do(("a", 1))
                break
        self.assertEqual(whole(sheet), before)

    def test_one_inside_of_another(self):
        sheet = undone(FIELD)
        before = whole(sheet)
        with sheet.trial() as one:
            one.do(("a", 7))
            inside = whole(sheet)
            with self.assertRaises(Stop):
                with one.trial() as other:
                    other.take_all(0)
                    with sheet.trial():
                        sheet.undo()
                        sheet.undo()
                    self.assertEqual(sheet.steps, ())
                    raise Stop
            self.assertEqual(whole(sheet), inside)
            self.assertIs(one.undo(), True)
        self.assertEqual(whole(sheet), before)

    def test_made_ahead_of_their_statement(self):
        sheet = Sheet(FIELD)
        trial, another = sheet.trial(), sheet.trial()
        sheet.do(("a", 1))
        sheet.do(("b", 1))
        sheet.undo()
        before = whole(sheet)
        with trial as same:
            self.assertIs(same, sheet)
            same.do(("c", 1))
            with another:
                self.assertEqual(len(sheet), 2)
                sheet.take_all(0)
            self.assertEqual(len(sheet), 2)
        self.assertEqual(whole(sheet), before)

    def test_one_trial_for_several_statements(self):
        sheet = Sheet(FIELD)
        trial = sheet.trial()
        for number in range(3):
            before = whole(sheet)
            with trial as same:
                same.do(("c", 1))
                inside = whole(sheet)
                with trial as other:
                    self.assertIs(other, sheet)
                    other.take_all(number)
                    other.do(("b", 1))
                self.assertEqual(whole(sheet), inside)
                same.undo()
            self.assertEqual(whole(sheet), before)
            sheet.do(("a", number + 1))

    def test_undone_beyond_its_beginning(self):
        sheet = undone(FIELD)
        before = whole(sheet)
        with sheet.trial() as same:
            same.do(("b", 1))
            for _ in range(4):
                self.assertIs(same.undo(), True)
            self.assertIs(same.undo(), False)
            self.assertEqual(same.do(("c", 1)), 0)
            self.assertIs(same.redo(), False)
        self.assertEqual(whole(sheet), before)

    def test_copies_outlive_it(self):
        sheet = undone(FIELD)
        with sheet.trial() as same:
            same.do(("b", 4))
            other = same.copy()
            inside = whole(other)
        self.assertEqual(whole(other), inside)
        self.assertEqual(other.steps[-1], ("b", 4))
        self.assertFalse(other == sheet)

    def test_two_sheets(self):
        one, other = sheet_of(FIELD, ("a", 1)), sheet_of(TIGHT, ("b", 1))
        with one.trial(), other.trial() as same:
            one.do(("c", 1))
            same.do(("c", 1))
        self.assertEqual((one.steps, other.steps), ((("a", 1),), (("b", 1),)))


class UnderTests(SheetCase):
    def test_trials(self):
        sheet = undone(FIELD)
        before = whole(sheet)
        for deed, value in ((lambda one: one.do(("b", 1)), 3), (lambda one: one.take_all(0), (2, 1, 0)), (lambda one: one.undo(), True),
                            (lambda one: one is sheet, True), (lambda one: one.take_all(1) and one.free(), (0,)), (lambda one: None, None), (len, 3)):
            self.assertEqual(under(sheet.trial(), deed), value)
            self.assertEqual(whole(sheet), before)

    def test_exceptions_pass(self):
        sheet = undone(FIELD)
        before = whole(sheet)

        def stop(one):
            one.do(("b", 1))
            raise Stop

        for deed, kind in ((stop, Stop), (lambda one: one.take_back(0), Held), (lambda one: one[0], TypeError)):
            with self.assertRaises(kind):
                under(sheet.trial(), deed)
            self.assertEqual(whole(sheet), before)

    def test_inside_of_one_another(self):
        sheet = sheet_of(FIELD, ("a", 1))

        def deed(one):
            one.do(("b", 1))
            return under(one.trial(), lambda other: other.do(("c", 1))), len(one)

        self.assertEqual(under(sheet.trial(), deed), (2, 2))
        self.assertEqual(len(sheet), 1)

    def test_other_managers(self):
        class Manager:
            def __init__(self):
                self.seen = []

            def __enter__(self):
                self.seen.append("in")
                return 7

            def __exit__(self, kind, value, trace):
                self.seen.append(kind)

        manager = Manager()
        self.assertEqual(under(manager, lambda one: one + 1), 8)
        with self.assertRaises(ZeroDivisionError):
            under(manager, lambda one: one // 0)
        self.assertEqual(manager.seen, ["in", None, "in", ZeroDivisionError])


if __name__ == "__main__":
    unittest.main()
