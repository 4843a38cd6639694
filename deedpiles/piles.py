"""Piles: scripts, and what they become by changes and joinings."""

from deedpiles.errors import BadScript
from deedpiles.fields import need_field, touch_table
from deedpiles.kinds import is_pair, is_whole

MOST_STEPS = 60
MOST_TIMES = 10 ** 30


def need_script(field, deeds):
    """The script itself; BadField, or BadScript for any value that is none."""
    names, _ = need_field(field)
    if not isinstance(deeds, tuple) or len(deeds) > MOST_STEPS:
        raise BadScript(None)
    for place, item in enumerate(deeds):
        if not is_step(names, item):
            raise BadScript(place)
    return deeds


def is_script(names, value):
    """Whether any value is a script of the fields with these names."""
    return are_great_steps(names, value, MOST_STEPS) and all([is_times(times) for _, times in value])


def is_step(names, value):
    """Whether any value is a step of the field with these names."""
    return is_great_step(names, value) and is_times(value[1])


def is_great_step(names, value):
    """Whether any value is a step of the field with these names, or one with greater TIMES."""
    if not is_pair(value):
        return False
    name, times = value
    return name in names and is_whole(times) and times != 0


def are_great_steps(names, value, most):
    """Whether any value is a tuple of at most so many steps of the field, or such with greater TIMES."""
    if not isinstance(value, tuple) or len(value) > most:
        return False
    return all([is_great_step(names, item) for item in value])


def is_times(value):
    """Whether any value can be the TIMES of a step."""
    return is_whole(value) and value != 0 and abs(value) <= MOST_TIMES


def is_pile(field, deeds):
    """Whether a script is a pile."""
    # Where two steps can come together, the pile has fewer pieces than the script has steps.
    return len(least_pile(field, deeds)) == len(deeds)


def least_pile(field, deeds):
    """The least pile of a script."""
    need_script(field, deeds)
    return piled(touch_table(field), deeds)


def length(field, deeds):
    """The sum of the TIMES of the pile of a script, without signs."""
    return length_of(least_pile(field, deeds))


def fronts(field, deeds):
    """The names of the pieces that can stand first, ascending."""
    return front_names(touch_table(need_field(field)), least_pile(field, deeds))


def ends(field, deeds):
    """The names of the pieces that can stand last, ascending."""
    return front_names(touch_table(need_field(field)), least_pile(field, deeds)[::-1])


def are_alike(field, one, other):
    """Whether two scripts lead each spot to the same one, in all drawings."""
    return least_pile(field, one) == least_pile(field, other)


def joined(field, one, other):
    """The least pile of the first script with the second one behind it."""
    steps = need_script(field, one) + need_script(field, other)
    return piled(touch_table(field), steps)


def taken_back(field, deeds):
    """The least pile by which a script is taken back."""
    steps = back(need_script(field, deeds))
    return piled(touch_table(field), steps)


def piled(touch, steps):
    """The least pile of any tuple of steps; touch tells which names touch each name."""
    pieces = []
    for name, times in steps:
        at = last_touched(touch[name], pieces)
        if at < 0 or pieces[at][0] != name:
            pieces.insert(place_behind(pieces, at, name), (name, times))
        elif pieces[at][1] + times != 0:
            pieces[at] = (name, pieces[at][1] + times)
        else:
            # All pieces behind it are apart from it: none comes together when it is
            # gone, and the others still are in the order of the least pile.
            del pieces[at]
    return tuple(pieces)


def last_touched(names, pieces):
    """The place of the last piece with one of these names, or -1."""
    at = len(pieces) - 1
    while at >= 0 and pieces[at][0] not in names:
        at -= 1
    return at


def place_behind(pieces, at, name):
    """The place in a least pile for a piece that touches the one at a place, and none behind."""
    # It can pass all that are behind, and has to be ahead of the first greater name there.
    place = at + 1
    while place < len(pieces) and pieces[place][0] < name:
        place += 1
    return place


def front_names(touch, pieces):
    """The names of the pieces that touch none ahead of them, ascending."""
    names = []
    barred = {}
    for name, _ in pieces:
        if name not in barred:
            names.append(name)
        for other in touch[name]:
            barred[other] = True
    return tuple(sorted(names))


def length_of(pieces):
    """The sum of the TIMES of pieces, without signs."""
    return sum([abs(times) for _, times in pieces])


def back(steps):
    """The steps that take a tuple of steps back."""
    return tuple([(name, -times) for name, times in steps[::-1]])


def do_touch(touch, one, other):
    """Whether a name of some steps touches one of others."""
    return any([far in touch[name] for name, _ in one for far, _ in other])
