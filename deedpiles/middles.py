"""Middles: how far scripts are from one another, and what lies between them."""

from deedpiles.fields import touch_table
from deedpiles.lower import common_of
from deedpiles.piles import back, least_pile, length_of, piled


def distance(field, one, other):
    """The LENGTH of the pile that leads from the pile of one script to that of the other one."""
    pieces, others = least_pile(field, one), least_pile(field, other)
    return distance_of(touch_table(field), pieces, others)


def is_between(field, one, other, far):
    """Whether the script other lies between one and far."""
    near, middle, end = least_pile(field, one), least_pile(field, other), least_pile(field, far)
    touch = touch_table(field)
    return distance_of(touch, near, middle) + distance_of(touch, middle, end) == distance_of(touch, near, end)


def middle_of(field, one, two, three):
    """The least pile that lies between each two of three scripts."""
    first, second, third = least_pile(field, one), least_pile(field, two), least_pile(field, three)
    return middle_pile(touch_table(field), first, second, third)


def leading(touch, one, other):
    """The least pile that leads from one least pile to another one."""
    return piled(touch, back(one) + other)


def distance_of(touch, one, other):
    """The distance of two least piles."""
    return length_of(leading(touch, one, other))


def middle_pile(touch, one, two, three):
    """The least pile that is the middle of three least piles."""
    return piled(touch, one + common_of(touch, leading(touch, one, two), leading(touch, one, three)))
