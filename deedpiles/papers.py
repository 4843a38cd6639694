"""Papers: what shows for two scripts that they are alike, or that they are not."""

from deedpiles.errors import BadMoves, BadPaper, BadSpot, BadYard
from deedpiles.fields import touch_table
from deedpiles.moves import moved, road
from deedpiles.piles import back, need_script, piled
from deedpiles.yards import all_led, led, yard_of_pile


def paper(field, one, other):
    """A paper on two scripts; TooGreat if the yard that parts them has more than 2,000 spots."""
    need_script(field, one)
    need_script(field, other)
    between = piled(touch_table(field), back(one) + other)
    if between == ():
        return "alike", road(field, one), road(field, other)
    yard = yard_of_pile(field, between)
    # The pile between them leads the spot 0 to another one, and so the first script leads
    # this spot to 0, the second one to another.
    spot = all_led(field, yard, back(one))[0]
    return "parted", yard, spot


def check_paper(field, one, other, paper):
    """The first word of a paper; BadPaper for any value that is no paper on these scripts."""
    need_script(field, one)
    need_script(field, other)
    if not isinstance(paper, tuple) or len(paper) != 3 or paper[0] not in ("alike", "parted"):
        raise BadPaper("form")
    word, first, second = paper
    if word == "alike":
        holds = do_meet(field, one, other, first, second)
    else:
        holds = do_part(field, one, other, first, second)
    if not holds:
        raise BadPaper(word)
    return word


def do_meet(field, one, other, moves, others):
    """Whether any two values are moves by which two scripts become the same steps."""
    try:
        return moved(field, one, moves) == moved(field, other, others)
    except BadMoves:
        return False


def do_part(field, one, other, yard, spot):
    """Whether any two values are a yard, and a spot of it that two scripts lead to different ones."""
    try:
        return led(field, yard, one, spot) != led(field, yard, other, spot)
    except (BadYard, BadSpot):
        return False
