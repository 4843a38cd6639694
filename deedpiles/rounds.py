"""Round piles: the core of a script, its parts, and the roots of these."""

from math import gcd

from deedpiles.fields import touch_table
from deedpiles.kinds import is_pair, is_whole
from deedpiles.piles import MOST_STEPS, are_great_steps, back, do_touch, front_names, least_pile, piled

MOST_AHEAD = 1000


def is_round(field, deeds):
    """Whether the least pile of a script is round."""
    pieces = least_pile(field, deeds)
    return is_round_pile(touch_table(field), pieces)


def core(field, deeds):
    """A core of a script: what goes ahead of a round pile, and, taken back, behind it, and this pile."""
    pieces = least_pile(field, deeds)
    return core_of(touch_table(field), pieces)


def split(field, deeds):
    """A split of a script: what goes ahead, and the roots with their numbers, by the least names in them."""
    pieces = least_pile(field, deeds)
    return split_of(touch_table(field), pieces)


def is_split(field, deeds, value):
    """Whether any value is a split of a script."""
    pieces = least_pile(field, deeds)
    names, _ = field
    if not is_split_form(names, value):
        return False
    touch = touch_table(field)
    ahead, roots = value
    if not are_roots(touch, roots):
        return False
    # A core of the script has as many pieces as the roots make; more would be too many to be written out.
    _, whole = core_of(touch, pieces)
    if sum([1 if len(root) == 1 else len(root) * many for root, many in roots]) != len(whole):
        return False
    return spread(touch, ahead, roots) == pieces


def is_round_pile(touch, pieces):
    """Whether a least pile is round."""
    return turning_name(touch, pieces) is None


def turning_name(touch, pieces):
    """A name with two different pieces, one of which can stand first, and the other one last; or None."""
    last = front_names(touch, pieces[::-1])
    for name in front_names(touch, pieces):
        if name in last and count_of(pieces, name) > 1:
            return name
    return None


def core_of(touch, pieces):
    """A core of a least pile, as two least piles."""
    ahead = ()
    name = turning_name(touch, pieces)
    while name is not None:
        step = first_of(pieces, name)
        ahead = ahead + (step,)
        pieces = turned_by(touch, pieces, step)
        name = turning_name(touch, pieces)
    return piled(touch, ahead), pieces


def first_of(pieces, name):
    """The first piece of a name."""
    return [piece for piece in pieces if piece[0] == name][0]


def turned_by(touch, pieces, step):
    """The least pile in which a piece that can stand first has come to the end."""
    return piled(touch, back((step,)) + pieces + (step,))


def split_of(touch, pieces):
    """A split of a least pile."""
    ahead, whole = core_of(touch, pieces)
    return ahead, tuple([root_of(touch, part) for part in parts_of(touch, whole)])


def parts_of(touch, pieces):
    """The parts of a round least pile, by the least names in them."""
    left = sorted(set([name for name, _ in pieces]))
    parts = []
    while left:
        names = linked_names(touch, left, left[0])
        parts.append(tuple([piece for piece in pieces if piece[0] in names]))
        left = [name for name in left if name not in names]
    return parts


def linked_names(touch, names, first):
    """A name, those of the names that touch it, those that touch these, and so on."""
    found = [first]
    at = 0
    while at < len(found):
        more = [name for name in touch[found[at]] if name in names and name not in found]
        found = found + more
        at += 1
    return found


def root_of(touch, part):
    """The pair of the root of a part of a round least pile, and how many times the part is that."""
    if len(part) == 1:
        name, times = part[0]
        return ((name, times // abs(times)),), abs(times)
    whole = common_divisor([count_of(part, name) for name, _ in part])
    for many in range(whole, 1, -1):
        root = first_share(part, many)
        if whole % many == 0 and piled(touch, root * many) == part:
            return root, many
    return part, 1


def count_of(pieces, name):
    """How many pieces of a name there are."""
    return len([other for other, _ in pieces if other == name])


def common_divisor(numbers):
    """The greatest integer by which all of some integers can be divided, or 0."""
    divisor = 0
    for number in numbers:
        divisor = gcd(divisor, number)
    return divisor


def first_share(part, many):
    """The first pieces of a part, of each name so manieth a share of its pieces."""
    share = []
    for at, (name, _) in enumerate(part):
        if count_of(part[:at], name) * many < count_of(part, name):
            share.append(part[at])
    return tuple(share)


def done_often(part, many):
    """Steps that do a part so many times; taken back below 0."""
    if len(part) == 1 and many != 0:
        name, times = part[0]
        return ((name, times * many),)
    return part * many if many >= 0 else back(part) * -many


def spread(touch, ahead, parts):
    """The least pile of what goes ahead, of parts, each so many times, and of the first taken back."""
    steps = ahead
    for part, many in parts:
        steps = steps + done_often(part, many)
    return piled(touch, steps + back(ahead))


def is_split_form(names, value):
    """Whether any value is a pair of steps and of pairs of steps and integers from 1 on."""
    if not is_pair(value) or not are_great_steps(names, value[0], MOST_AHEAD) or not isinstance(value[1], tuple):
        return False
    return all([is_pair(item) and is_root_form(names, item) for item in value[1]])


def is_root_form(names, item):
    """Whether a pair is one of steps and of an integer from 1 on."""
    root, many = item
    return are_great_steps(names, root, MOST_STEPS) and is_whole(many) and many >= 1


def are_roots(touch, roots):
    """Whether all scripts of some pairs are roots, and the names of different ones apart."""
    ahead = ()
    for root, _ in roots:
        if not is_root(touch, root) or do_touch(touch, ahead, root):
            return False
        ahead = ahead + root
    return True


def is_root(touch, steps):
    """Whether steps are a round pile of one part that is not alike to any script two or more times."""
    pieces = piled(touch, steps)
    if len(pieces) != len(steps) or not is_round_pile(touch, pieces):
        return False
    return [root_of(touch, part)[1] for part in parts_of(touch, pieces)] == [1]
