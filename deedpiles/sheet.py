"""Sheets: drawings that are kept live, in which steps are taken back in any order that is allowed."""

from deedpiles.errors import BadNumber, BadScript, Held, TooGreat
from deedpiles.fields import need_field, touch_table
from deedpiles.kinds import is_whole
from deedpiles.piles import MOST_STEPS, is_step, piled


class Sheet:
    """A sheet: a row of steps that were done and stand, each with its number.

    Its state is a triple: the row with the number of the next step, as they are now; a tuple of all such
    pairs to which undo leads, the next one last; and one of those to which redo leads, the next one first.
    """

    def __init__(self, field):
        self._field = need_field(field)
        # Tuples, and replaced at once: so a trial, or a copy, has just to keep what there is.
        self._state = (((), 0), (), ())

    @property
    def field(self):
        """Its field."""
        return self._field

    @property
    def row(self):
        """The pairs of a number and a step that stand, in the order in which they were done."""
        (row, _), _, _ = self._state
        return row

    @property
    def steps(self):
        """The steps that stand."""
        return tuple([step for _, step in self.row])

    def __len__(self):
        return len(self.row)

    def __contains__(self, x):
        return is_whole(x) and x in [number for number, _ in self.row]

    def __eq__(self, other):
        return isinstance(other, Sheet) and self.field == other.field and self.row == other.row

    def least(self):
        """The least pile of the steps that stand."""
        return piled(touch_table(self._field), self.steps)

    def do(self, step):
        """A step is done; its number. BadScript for any value that is no step, TooGreat for more than 60."""
        names, _ = self._field
        if not is_step(names, step):
            raise BadScript(0)
        (row, count), _, _ = self._state
        if len(row) >= MOST_STEPS:
            raise TooGreat(MOST_STEPS)
        self._go_on(row + ((count, step),), count + 1)
        return count

    def free(self):
        """The numbers of the steps that are not held, ascending."""
        row = self.row
        touch = touch_table(self._field)
        return tuple([number for at, (number, _) in enumerate(row) if holders(touch, row, at) == ()])

    def ahead_of(self, number):
        """The numbers of the steps by which one is held, ascending; BadNumber for the number of none that stands."""
        row = self.row
        return holders(touch_table(self._field), row, need_place(row, number))

    def take_back(self, number):
        """A step is taken back; BadNumber for the number of none that stands, Held for one that is held."""
        numbers = self.ahead_of(number)
        if numbers != ():
            raise Held(numbers[0])
        self._leave_out((number,))

    def take_all(self, number):
        """A step is taken back behind all by which it is held, the latest first; the numbers of all these."""
        numbers = self.ahead_of(number)[::-1] + (number,)
        self._leave_out(numbers)
        return numbers

    def undo(self):
        """What was done last is undone; whether there was something."""
        now, past, future = self._state
        if past == ():
            return False
        self._state = (past[-1], past[:-1], (now,) + future)
        return True

    def redo(self):
        """What was undone last is done again, as long as nothing else was done since; whether there was something."""
        now, past, future = self._state
        if future == ():
            return False
        self._state = (future[0], past + (now,), future[1:])
        return True

    def copy(self):
        """A sheet that is equal and goes on by itself."""
        same = Sheet(self._field)
        same._state = self._state
        return same

    def trial(self):
        """What gives the sheet to a with statement; behind that, the sheet is what it was ahead of it."""
        return Trial(self)

    def _go_on(self, row, count):
        """From now on a row stands, and a number is the next one."""
        now, past, _ = self._state
        self._state = ((row, count), past + (now,), ())

    def _leave_out(self, numbers):
        """From now on the steps with some numbers stand no longer."""
        (row, count), _, _ = self._state
        self._go_on(tuple([item for item in row if item[0] not in numbers]), count)


class Trial:
    """What keeps a sheet while the block of a with statement tries something."""

    def __init__(self, sheet):
        self._sheet = sheet
        self._kept = None

    def __enter__(self):
        self._kept = Kept(self._sheet._state, self._kept)
        return self._sheet

    def __exit__(self, kind, value, trace):
        self._sheet._state = self._kept.state
        self._kept = self._kept.outer


class Kept:
    """What a sheet was when a block began; and what is kept for a block of the same trial around that one."""

    def __init__(self, state, outer):
        self.state = state
        self.outer = outer


def under(manager, deed):
    """What a deed returns, called in a with statement over a manager with what this gives."""
    with manager as one:
        return deed(one)


def need_place(row, number):
    """The place in a row of the step with a number; BadNumber for any value that is the number of none."""
    numbers = [other for other, _ in row]
    if not is_whole(number) or number not in numbers:
        raise BadNumber(number)
    return numbers.index(number)


def holders(touch, row, at):
    """The numbers of the steps by which the one at a place of a row is held, ascending."""
    numbers = []
    _, (held, _) = row[at]
    names = list(touch[held])
    for number, (name, _) in row[at + 1:]:
        if name in names:
            numbers.append(number)
            names.extend(touch[name])
    return tuple(numbers)
