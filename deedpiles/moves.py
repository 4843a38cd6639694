"""Moves: what leads steps, one after the other, to others that are alike."""

from deedpiles.errors import BadMoves
from deedpiles.fields import are_apart, touch_table
from deedpiles.kinds import is_whole
from deedpiles.piles import is_step, is_times, last_touched, need_script, piled, place_behind

MOST_MOVES = 5000
MOST_MOVED_STEPS = 400


def moved(field, deeds, moves):
    """The steps that a script becomes by moves; BadMoves for any value that is none."""
    steps = need_script(field, deeds)
    if not isinstance(moves, tuple) or len(moves) > MOST_MOVES:
        raise BadMoves(None)
    for place, move in enumerate(moves):
        steps = after_move(field, steps, move)
        if steps is None:
            raise BadMoves(place)
    return steps


def road(field, deeds):
    """Changes and joins by which a script becomes its least pile."""
    steps = need_script(field, deeds)
    touch = touch_table(field)
    moves = []
    pieces = ()
    for step in steps:
        moves.extend(moves_onto(touch, pieces, step[0]))
        pieces = piled(touch, pieces + (step,))
    return tuple(moves)


def moves_onto(touch, pieces, name):
    """The moves by which a step behind a least pile comes to lie where it does in the least pile of both."""
    at = last_touched(touch[name], pieces)
    joins = at >= 0 and pieces[at][0] == name
    place = at + 1 if joins else place_behind(pieces, at, name)
    moves = [("change", number) for number in range(len(pieces) - 1, place - 1, -1)]
    if joins:
        moves.append(("join", at))
    return moves


def after_move(field, steps, move):
    """The steps that a move makes of others; None for any value that is no move which can be made."""
    if not isinstance(move, tuple) or len(move) not in (2, 3) or not is_whole(move[1]):
        return None
    made = None
    if len(move) == 2:
        word, at = move
        if word == "change":
            made = after_change(field, steps, at)
        elif word == "join":
            made = after_join(steps, at)
    else:
        word, at, what = move
        if word == "part":
            made = after_part(steps, at, what)
        elif word == "put":
            made = after_put(field, steps, at, what)
    if made is None or len(made) > MOST_MOVED_STEPS:
        return None
    return made


def after_change(field, steps, at):
    """The steps with two neighbours changed, or None."""
    _, pairs = field
    if not 0 <= at < len(steps) - 1 or not are_apart(pairs, steps[at][0], steps[at + 1][0]):
        return None
    return steps[:at] + (steps[at + 1], steps[at]) + steps[at + 2:]


def after_join(steps, at):
    """The steps with two neighbours joined, or None."""
    if not 0 <= at < len(steps) - 1 or steps[at][0] != steps[at + 1][0]:
        return None
    name, times = steps[at]
    times = times + steps[at + 1][1]
    both = ((name, times),) if times != 0 else ()
    return steps[:at] + both + steps[at + 2:]


def after_part(steps, at, times):
    """The steps with one of them parted, or None."""
    if not 0 <= at < len(steps):
        return None
    name, whole = steps[at]
    # Only the first of the two has to be a step: the other one may have greater TIMES.
    if not is_times(times) or times == whole:
        return None
    return steps[:at] + ((name, times), (name, whole - times)) + steps[at + 1:]


def after_put(field, steps, at, step):
    """The steps with another one, and its taking back, put in, or None."""
    names, _ = field
    if not 0 <= at <= len(steps) or not is_step(names, step):
        return None
    name, times = step
    return steps[:at] + (step, (name, -times)) + steps[at:]
