"""Piles as values."""

from deedpiles.bounds import MOST_NUMBER, need_number
from deedpiles.errors import BadNumber, TooGreat, Unlike
from deedpiles.fields import touch_table
from deedpiles.kinds import is_whole
from deedpiles.lower import common_of, is_lower_of, over_both_of
from deedpiles.middles import distance_of, middle_pile
from deedpiles.piles import back, least_pile, length_of, piled
from deedpiles.powers import power_of

MOST_PIECES = 200


class Pieces:
    """The least pile of what Piles make: it may be greater than what may be passed, and is not looked at again."""

    def __init__(self, made):
        self.made = made


class Pile:
    """A pile as a value; it never changes."""

    def __init__(self, field, deeds):
        self._steps = deeds.made if isinstance(deeds, Pieces) else least_pile(field, deeds)
        self._field = field

    @property
    def field(self):
        """Its field."""
        return self._field

    @property
    def steps(self):
        """The least pile."""
        return self._steps

    @property
    def length(self):
        """The sum of its TIMES without signs."""
        return length_of(self._steps)

    def __len__(self):
        return len(self._steps)

    def __getitem__(self, at):
        if not is_whole(at) or not 0 <= at < len(self._steps):
            raise BadNumber(at)
        return self._steps[at]

    def __contains__(self, x):
        return x in [name for name, _ in self._steps]

    def __iter__(self):
        raise TypeError("a pile is not iterated over")

    def __eq__(self, other):
        return isinstance(other, Pile) and self._field == other._field and self._steps == other._steps

    def __mul__(self, other):
        if not isinstance(other, Pile):
            return NotImplemented
        need_like(self, other)
        return made_pile(self._field, piled(touch_table(self._field), self._steps + other._steps))

    def __invert__(self):
        return made_pile(self._field, piled(touch_table(self._field), back(self._steps)))

    def __and__(self, other):
        if not isinstance(other, Pile):
            return NotImplemented
        need_like(self, other)
        return made_pile(self._field, common_of(touch_table(self._field), self._steps, other._steps))

    def many(self, times):
        """The pile, so many times; BadNumber for any value that is no integer from -10 ** 30 to 10 ** 30."""
        need_number(times, -MOST_NUMBER)
        return made_pile(self._field, power_of(touch_table(self._field), self._steps, times, MOST_PIECES))

    def is_lower(self, other):
        """Whether it is a lower part of the other one."""
        need_like(self, other)
        return is_lower_of(touch_table(self._field), self._steps, other.steps)

    def over_both(self, other):
        """The least pile of which both are lower parts, or None."""
        need_like(self, other)
        pieces = over_both_of(touch_table(self._field), self._steps, other.steps)
        return None if pieces is None else made_pile(self._field, pieces)

    def distance(self, other):
        """The distance of both."""
        need_like(self, other)
        return distance_of(touch_table(self._field), self._steps, other.steps)

    def middle(self, other, third):
        """The middle of the three."""
        need_like(self, other)
        need_like(self, third)
        return made_pile(self._field, middle_pile(touch_table(self._field), self._steps, other.steps, third.steps))


def need_like(pile, other):
    """Unlike for a pile of another field than that of the first one."""
    if other.field != pile.field:
        raise Unlike(other.field)


def made_pile(field, pieces):
    """The Pile of a least pile; TooGreat for more than 200 pieces."""
    if len(pieces) > MOST_PIECES:
        raise TooGreat(MOST_PIECES)
    return Pile(field, Pieces(pieces))
