"""Keepers: all scripts that change places with a script."""

from deedpiles.fields import touch_table
from deedpiles.piles import back, least_pile, length_of, piled
from deedpiles.rounds import core_of, done_often, split_of


def do_change(field, one, other):
    """Whether two scripts change places."""
    pieces, others = least_pile(field, one), least_pile(field, other)
    return do_change_piles(touch_table(field), pieces, others)


def free_names(field, deeds):
    """The names that are apart from all names in the round pile of a core of a script, ascending."""
    pieces = least_pile(field, deeds)
    names, _ = field
    touch = touch_table(field)
    _, whole = core_of(touch, pieces)
    return tuple([name for name in names if not any([other in touch[name] for other, _ in whole])])


def kept_as(field, deeds, other):
    """How often the other script does each root of a script, and what it does besides; None if they do not change."""
    pieces, others = least_pile(field, deeds), least_pile(field, other)
    touch = touch_table(field)
    if not do_change_piles(touch, pieces, others):
        return None
    ahead, roots = split_of(touch, pieces)
    # Names of different roots are apart, and free ones from all of them: so each lies there by itself.
    rest = piled(touch, back(ahead) + others + ahead)
    numbers = []
    for root, _ in roots:
        names = [name for name, _ in root]
        numbers.append(times_done(touch, root, tuple([piece for piece in rest if piece[0] in names])))
        rest = tuple([piece for piece in rest if piece[0] not in names])
    return tuple(numbers), rest


def do_change_piles(touch, one, other):
    """Whether two least piles change places."""
    return piled(touch, one + other) == piled(touch, other + one)


def times_done(touch, root, pieces):
    """How many times a root the pieces of a least pile are, which are some number of times that root."""
    many = length_of(pieces) // length_of(root)
    return many if piled(touch, done_often(root, many)) == pieces else -many
