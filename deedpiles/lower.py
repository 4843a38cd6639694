"""Lower parts of piles: what two piles have in common, and what lies over both."""

from deedpiles.fields import touch_table
from deedpiles.piles import back, do_touch, least_pile, length_of, piled


def is_lower(field, one, other):
    """Whether the pile of the first script is a lower part of that of the second one."""
    low, high = least_pile(field, one), least_pile(field, other)
    return is_lower_of(touch_table(field), low, high)


def common(field, one, other):
    """The least pile of the greatest lower part that two scripts have in common."""
    low, high = least_pile(field, one), least_pile(field, other)
    return common_of(touch_table(field), low, high)


def over_both(field, one, other):
    """The least pile of the least one of which both are lower parts, or None."""
    low, high = least_pile(field, one), least_pile(field, other)
    return over_both_of(touch_table(field), low, high)


def is_lower_of(touch, low, high):
    """Whether one least pile is a lower part of another one."""
    lacking = piled(touch, back(low) + high)
    return length_of(low) + length_of(lacking) == length_of(high)


def common_of(touch, one, other):
    """The greatest lower part that two least piles have in common, as a least pile."""
    shared = []
    barred = {}
    rest = other
    # What lies below a piece in the common part is ahead of it in either pile: one pass finds all.
    for name, times in one:
        part = 0 if name in barred else shared_times(times, front_times(touch, rest, name))
        if part != 0:
            shared.append((name, part))
            rest = piled(touch, ((name, -part),) + rest)
        if part != times:
            for above in touch[name]:
                barred[above] = True
    return tuple(shared)


def front_times(touch, pieces, name):
    """The TIMES of the piece of a name that can stand first, or 0."""
    for other, times in pieces:
        if other in touch[name]:
            return times if other == name else 0
    return 0


def shared_times(one, other):
    """The lesser of two TIMES by size, if they have one sign; otherwise 0."""
    return max(0, min(one, other)) + min(0, max(one, other))


def over_both_of(touch, one, other):
    """The least of the piles of which two least piles are lower parts, or None."""
    low = common_of(touch, one, other)
    rest, more = piled(touch, back(low) + one), piled(touch, back(low) + other)
    if do_touch(touch, rest, more):
        return None
    return piled(touch, one + more)
