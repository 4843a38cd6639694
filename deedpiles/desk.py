"""A desk: a sheet that is led by lines."""

from deedpiles.errors import BadText, PileError, TooGreat
from deedpiles.middles import distance, middle_of
from deedpiles.piles import are_alike, least_pile, length
from deedpiles.sheet import Sheet
from deedpiles.texts import field_text, is_figures, read_field, read_script, steps_text
from deedpiles.writings import many_writings, writing_at

BAD_LINE = "bad line"
MOST_FIGURES_OF_NUMBERS = 30


class Desk:
    """A sheet that is led by lines."""

    def __init__(self, text):
        self._sheet = Sheet(read_field(text))

    @property
    def sheet(self):
        """The sheet itself."""
        return self._sheet

    def say(self, line):
        """The answer to any value, a string."""
        if not isinstance(line, str):
            return BAD_LINE
        try:
            return answer(self._sheet, line)
        except (PileError, TooGreat):
            return BAD_LINE


def answer_free(sheet):
    """The numbers of the steps that are not held."""
    return numbers_text(sheet.free())


def answer_numbers(sheet):
    """The numbers of the steps that stand."""
    return numbers_text([number for number, _ in sheet.row])


def answer_undo(sheet):
    """What was done last is undone."""
    return "done" if sheet.undo() else "nothing"


def answer_redo(sheet):
    """What was undone last is done again."""
    return "done" if sheet.redo() else "nothing"


def answer_row(sheet):
    """The text of what stands."""
    return steps_text(sheet.steps)


def answer_pile(sheet):
    """The text of the least pile of what stands."""
    return steps_text(sheet.least())


def answer_field(sheet):
    """The text of the field."""
    return field_text(sheet.field)


def answer_do(sheet, rest):
    """A step is done: its number."""
    steps = read_script(sheet.field, rest)
    if len(steps) != 1:
        raise BadText(0, 1)
    return str(sheet.do(steps[0]))


def answer_take(sheet, rest):
    """A step is taken back."""
    sheet.take_back(read_number(rest))
    return "done"


def answer_all(sheet, rest):
    """A step, and all by which it is held, are taken back: their numbers."""
    return numbers_text(sheet.take_all(read_number(rest)))


def answer_ahead(sheet, rest):
    """The numbers of the steps by which one is held."""
    return numbers_text(sheet.ahead_of(read_number(rest)))


def answer_least(sheet, rest):
    """The text of the least pile of a script."""
    return steps_text(least_pile(sheet.field, read_script(sheet.field, rest)))


def answer_length(sheet, rest):
    """The LENGTH of a script."""
    return str(length(sheet.field, read_script(sheet.field, rest)))


def answer_many(sheet, rest):
    """How many writings a script has."""
    return str(many_writings(sheet.field, read_script(sheet.field, rest)))


def answer_write(sheet, rest):
    """The text of the writing of a script with a number."""
    figures, _, text = rest.partition(" ")
    number = read_number(figures)
    return steps_text(writing_at(sheet.field, read_script(sheet.field, text), number))


def answer_alike(sheet, rest):
    """Whether two scripts are alike."""
    one, other = read_scripts(sheet.field, rest, 2)
    return "yes" if are_alike(sheet.field, one, other) else "no"


def answer_distance(sheet, rest):
    """The distance of two scripts."""
    one, other = read_scripts(sheet.field, rest, 2)
    return str(distance(sheet.field, one, other))


def answer_middle(sheet, rest):
    """The text of the middle of three scripts."""
    one, two, three = read_scripts(sheet.field, rest, 3)
    return steps_text(middle_of(sheet.field, one, two, three))


WORDS_ALONE = {
    "free": answer_free, "numbers": answer_numbers, "undo": answer_undo, "redo": answer_redo,
    "row": answer_row, "pile": answer_pile, "field": answer_field,
}
WORDS_WITH_MORE = {
    "do": answer_do, "take": answer_take, "all": answer_all, "ahead": answer_ahead, "least": answer_least,
    "length": answer_length, "many": answer_many, "write": answer_write, "alike": answer_alike,
    "distance": answer_distance, "middle": answer_middle,
}


def answer(sheet, line):
    """The answer to a line; an error of the package for one that has none."""
    word, blank, rest = line.partition(" ")
    if blank == "" and word in WORDS_ALONE:
        act = WORDS_ALONE[word]
        return act(sheet)
    if blank != "" and word in WORDS_WITH_MORE:
        act = WORDS_WITH_MORE[word]
        return act(sheet, rest)
    raise BadText(0, 0)


def read_number(text):
    """The integer that a text of at most 30 figures tells."""
    if not is_figures(text, MOST_FIGURES_OF_NUMBERS):
        raise BadText(0, 1)
    return int(text)


def read_scripts(field, text, many):
    """So many scripts that a text tells."""
    texts = text.split(" = ")
    if len(texts) != many:
        raise BadText(0, 1)
    return [read_script(field, part) for part in texts]


def numbers_text(numbers):
    """The text of some numbers."""
    if len(numbers) == 0:
        return "none"
    return " ".join([str(number) for number in numbers])
