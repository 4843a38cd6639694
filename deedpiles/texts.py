"""Texts: fields and scripts as lines of words."""

from deedpiles.errors import BadText
from deedpiles.fields import is_name, need_field
from deedpiles.piles import need_script

MOST_FIGURES = 31


def field_text(field):
    """The text of a field."""
    names, pairs = need_field(field)
    rows = [("names",) + names] + [("apart",) + pair for pair in pairs]
    return "\n".join([" ".join(row) for row in rows])


def script_text(field, deeds):
    """The text of a script."""
    return steps_text(need_script(field, deeds))


def read_field(text):
    """The field that a text tells; BadText at the first word that cannot stand there, then BadField."""
    if not isinstance(text, str):
        raise BadText(None, None)
    rows = [line.split(" ") for line in text.split("\n")]
    for line, words in enumerate(rows):
        need_field_line(line, words)
    pairs = [tuple(words[1:]) for words in rows[1:]]
    return need_field((tuple(rows[0][1:]), tuple(pairs)))


def read_script(field, text):
    """The script of a field that a text tells; BadText at the first word that cannot stand there, then BadScript."""
    need_field(field)
    if not isinstance(text, str):
        raise BadText(None, None)
    if text == "-":
        return ()
    steps = []
    for place, word in enumerate(text.split(" ")):
        step = step_of(word)
        if step is None:
            raise BadText(0, place)
        steps.append(step)
    return need_script(field, tuple(steps))


def steps_text(steps):
    """The text of any tuple of steps."""
    if steps == ():
        return "-"
    return " ".join([name if times == 1 else f"{name}^{times}" for name, times in steps])


def need_field_line(line, words):
    """BadText at the first word that cannot stand in a line of the text of a field, or that is lacking there."""
    for place, word in enumerate(words):
        if not can_stand(line, place, word):
            raise BadText(line, place)
    if len(words) < (2 if line == 0 else 3):
        raise BadText(line, len(words))


def can_stand(line, place, word):
    """Whether a word can stand at a place in a line of the text of a field."""
    if place == 0:
        return word == ("names" if line == 0 else "apart")
    return is_name(word) and (line == 0 or place <= 2)


def step_of(word):
    """The step that a word tells, of whatever field; None for what tells none."""
    name, sign, times = word.partition("^")
    if not is_name(name):
        return None
    if sign == "":
        return name, 1
    figures = times[1:] if times.startswith("-") else times
    if not is_figures(figures, MOST_FIGURES) or figures == "0" or times == "1":
        return None
    return name, int(times)


def is_figures(text, most):
    """Whether a text is an integer from 0 on in decimal, of at most so many figures, none of them needless."""
    if not 1 <= len(text) <= most or not all(["0" <= figure <= "9" for figure in text]):
        return False
    return text == "0" or text[0] != "0"
