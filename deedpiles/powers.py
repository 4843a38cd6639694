"""Powers: scripts so many times, and what a script is so many times."""

from math import gcd

from deedpiles.bounds import MOST_NUMBER, need_number
from deedpiles.errors import TooGreat
from deedpiles.fields import touch_table
from deedpiles.piles import back, least_pile, length_of, piled
from deedpiles.rounds import common_divisor, core_of, parts_of, split_of, spread

MOST_PIECES = 400


def greatest_root(field, deeds):
    """The least pile of the greatest root of a script, and how many times the script is that."""
    pieces = least_pile(field, deeds)
    return greatest_root_of(touch_table(field), pieces)


def nth_root(field, deeds, number):
    """The least pile of a script that is, so many times, alike to another one, or None."""
    pieces = least_pile(field, deeds)
    need_number(number, 1)
    touch = touch_table(field)
    ahead, roots = split_of(touch, pieces)
    if any([many % number != 0 for _, many in roots]):
        return None
    return spread(touch, ahead, [(root, many // number) for root, many in roots])


def power(field, deeds, number):
    """The least pile of a script, so many times; TooGreat for more than 400 pieces."""
    pieces = least_pile(field, deeds)
    need_number(number, -MOST_NUMBER)
    return power_of(touch_table(field), pieces, number, MOST_PIECES)


def power_length(field, deeds, number):
    """The LENGTH of a script, so many times."""
    pieces = least_pile(field, deeds)
    need_number(number, -MOST_NUMBER)
    if number == 0:
        return 0
    _, whole = core_of(touch_table(field), pieces)
    return length_of(pieces) + (abs(number) - 1) * length_of(whole)


def some_times(field, one, other):
    """The least numbers of times, from 1 on, with which two scripts are alike, or None."""
    pieces, others = least_pile(field, one), least_pile(field, other)
    touch = touch_table(field)
    root, many = greatest_root_of(touch, pieces)
    other_root, other_many = greatest_root_of(touch, others)
    if root != other_root:
        return None
    if root == ():
        return 1, 1
    both = gcd(many, other_many)
    return other_many // both, many // both


def are_powers_alike(field, one, number, other, times):
    """Whether two scripts, each so many times, are alike."""
    pieces = least_pile(field, one)
    need_number(number, -MOST_NUMBER)
    others = least_pile(field, other)
    need_number(times, -MOST_NUMBER)
    touch = touch_table(field)
    return root_and_number(touch, pieces, number) == root_and_number(touch, others, times)


def greatest_root_of(touch, pieces):
    """The greatest root of a least pile, as a least pile, and how many times it is that; ((), 0) of the empty one."""
    ahead, roots = split_of(touch, pieces)
    whole = common_divisor([many for _, many in roots])
    if whole == 0:
        return (), 0
    return spread(touch, ahead, [(root, many // whole) for root, many in roots]), whole


def root_and_number(touch, pieces, number):
    """The greatest root of a least pile so many times, and of how many times that is."""
    if number == 0:
        return (), 0
    if number < 0:
        pieces = piled(touch, back(pieces))
    root, many = greatest_root_of(touch, pieces)
    return root, many * abs(number)


def power_of(touch, pieces, number, most):
    """The least pile of a least pile, so many times; TooGreat for more than so many pieces."""
    ahead, whole = core_of(touch, pieces)
    parts = parts_of(touch, whole)
    # The core of the power is the round pile so often, and no pile has fewer pieces than its
    # core: so this refuses what may be too long to be written out.
    if sum([len(part) * abs(number) for part in parts if len(part) > 1]) > most:
        raise TooGreat(most)
    told = spread(touch, ahead, [(part, number) for part in parts])
    if len(told) > most:
        raise TooGreat(most)
    return told
