"""Turns: scripts that come from one another when what stands first comes to the end."""

from deedpiles.errors import TooGreat
from deedpiles.fields import touch_table
from deedpiles.piles import are_great_steps, back, front_names, least_pile, piled
from deedpiles.rounds import MOST_AHEAD, core_of, count_of, first_of, parts_of, turned_by

MOST_TURNS = 500


def turn_form(field, deeds):
    """The turn form of a script."""
    pieces = least_pile(field, deeds)
    _, form = turned_to_form(touch_table(field), pieces)
    return form


def are_turns(field, one, other):
    """Whether two scripts are turns of one another."""
    return turn_form(field, one) == turn_form(field, other)


def turner(field, one, other):
    """A least pile that turns the other script to the one, or None."""
    pieces, others = least_pile(field, one), least_pile(field, other)
    touch = touch_table(field)
    ahead, form = turned_to_form(touch, pieces)
    further, other_form = turned_to_form(touch, others)
    if form != other_form:
        return None
    return piled(touch, ahead + back(further))


def does_turn(field, one, other, value):
    """Whether any value is a tuple of steps that turns the other script to the one."""
    pieces, others = least_pile(field, one), least_pile(field, other)
    names, _ = field
    if not are_great_steps(names, value, MOST_AHEAD):
        return False
    return piled(touch_table(field), value + others + back(value)) == pieces


def turns_of(field, deeds):
    """The least piles of all round piles that are turns of a script, ascending; TooGreat for more than 500."""
    pieces = least_pile(field, deeds)
    touch = touch_table(field)
    _, whole = core_of(touch, pieces)
    found = {whole: True}
    waiting = [whole]
    while waiting:
        further = next_turns(touch, waiting.pop())
        for turn in further:
            if turn not in found:
                found[turn] = True
                waiting.append(turn)
        if len(found) > MOST_TURNS:
            raise TooGreat(MOST_TURNS)
    return tuple(sorted(list(found)))


def next_turns(touch, pieces):
    """The least piles in which one of the pieces that can stand first has come to the end."""
    return [turned_by(touch, pieces, first_of(pieces, name)) for name in front_names(touch, pieces)]


def turned_to_form(touch, pieces):
    """What turns the turn form of a least pile to this pile, as steps, and the turn form."""
    ahead, whole = core_of(touch, pieces)
    form = ()
    for part in parts_of(touch, whole):
        steps, least = least_pointed(touch, part)
        ahead = ahead + steps
        form = form + least
    return ahead, piled(touch, form)


def least_pointed(touch, part):
    """What turns the least pointed turn of a part to this part, as steps, and the least pointed turn."""
    name = min(part)[0]
    steps, turn = pointed(touch, name, part)
    best = (steps, turn)
    for _ in range(count_of(part, name) - 1):
        step = first_of(turn, name)
        more, turn = pointed(touch, name, turned_by(touch, turn, step))
        steps = steps + (step,) + more
        if turn < best[1]:
            best = (steps, turn)
    return best


def pointed(touch, name, part):
    """The pieces that come to the end until just the one of a name can stand first, and what the part is then."""
    # This ends: what touches the name comes to lie on its piece, and stays there; then what touches
    # that stays, and so on through the part.
    steps = ()
    others = [other for other in front_names(touch, part) if other != name]
    while others:
        step = first_of(part, others[0])
        steps = steps + (step,)
        part = turned_by(touch, part, step)
        others = [other for other in front_names(touch, part) if other != name]
    return steps, part
