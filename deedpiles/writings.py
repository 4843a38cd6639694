"""Writings: all rows of as few units as can be that are alike to a script."""

from deedpiles.errors import BadNumber, BadScript, TooGreat
from deedpiles.fields import need_field, touch_table
from deedpiles.kinds import is_whole
from deedpiles.piles import is_great_step, least_pile, length_of, piled

MOST_UNITS = 200
MOST_LOWER_PARTS = 20000
MOST_WRITINGS = 1000


class Growth:
    """How a pile grows unit by unit, through its lower parts that consist of whole units.

    first is the empty one of these; further has for each of them the units that can come next, ascending,
    each with the lower part that it makes; counts has for each in how many ways it grows to the whole pile.
    """

    def __init__(self, first, further):
        self.first = first
        self.further = further
        self.counts = counts_of(further)


def many_writings(field, deeds):
    """How many writings a script has."""
    growth = growth_of(field, short_pile(field, deeds))
    return growth.counts[growth.first]


def writing_at(field, deeds, number):
    """The writing of a script with a number; BadNumber for any value that is none of theirs."""
    growth = growth_of(field, short_pile(field, deeds))
    if not is_whole(number) or not 0 <= number < growth.counts[growth.first]:
        raise BadNumber(number)
    return numbered(growth, number)


def all_writings(field, deeds):
    """All writings of a script, ascending; TooGreat for more than 1,000."""
    growth = growth_of(field, short_pile(field, deeds))
    many = growth.counts[growth.first]
    if many > MOST_WRITINGS:
        raise TooGreat(MOST_WRITINGS)
    return tuple([numbered(growth, number) for number in range(many)])


def is_writing(field, row):
    """Whether a row of units is a writing of what it is."""
    need_row(field, row)
    return length_of(piled(touch_table(field), row)) == len(row)


def writing_number(field, row):
    """The number of a row of units among the writings of what it is, or None if it is none of them."""
    if not is_writing(field, row):
        return None
    return number_of(growth_of(field, piled(touch_table(field), row)), row)


def need_row(field, row):
    """The row itself; BadField, or BadScript for any value that is no tuple of at most 200 units."""
    names, _ = need_field(field)
    if not isinstance(row, tuple) or len(row) > MOST_UNITS:
        raise BadScript(None)
    for place, item in enumerate(row):
        if not is_great_step(names, item) or abs(item[1]) != 1:
            raise BadScript(place)
    return row


def short_pile(field, deeds):
    """The least pile of a script; TooGreat for more LENGTH than 200."""
    pieces = least_pile(field, deeds)
    if length_of(pieces) > MOST_UNITS:
        raise TooGreat(MOST_UNITS)
    return pieces


def growth_of(field, pieces):
    """How a least pile grows; TooGreat for more lower parts of whole units than 20,000."""
    columns = columns_of(field, pieces)
    first = (0,) * len(columns)
    further = {}
    seen = {first: True}
    waiting = [first]
    while len(further) < len(waiting):
        part = waiting[len(further)]
        steps = next_parts(columns, part)
        for _, larger in steps:
            if larger not in seen:
                if len(waiting) == MOST_LOWER_PARTS:
                    raise TooGreat(MOST_LOWER_PARTS)
                seen[larger] = True
                waiting.append(larger)
        further[part] = steps
    return Growth(first, further)


def columns_of(field, pieces):
    """For each name its units, in their order; each with how many of each name it has to lie on."""
    touch = touch_table(field)
    ahead = {name: 0 for name in touch}
    columns = {name: [] for name in touch}
    for name, times in pieces:
        for _ in range(abs(times)):
            below = tuple([ahead[other] if other in touch[name] else 0 for other in touch])
            columns[name].append(((name, times // abs(times)), below))
            ahead[name] += 1
    return [columns[name] for name in touch]


def next_parts(columns, part):
    """The units that can come next behind a lower part, ascending, each with the lower part that it makes."""
    # Units of one name lie on one another: so it is enough to know how many of each name a lower part has.
    found = []
    for at, column in enumerate(columns):
        if part[at] < len(column):
            unit, below = column[part[at]]
            if all([there >= needed for there, needed in zip(part, below)]):
                found.append((unit, part[:at] + (part[at] + 1,) + part[at + 1:]))
    return found


def counts_of(further):
    """For each lower part in how many ways it grows to the whole pile."""
    counts = {}
    # They stand there by their sizes: from the last one on, all larger ones are told already.
    for part in list(further)[::-1]:
        steps = further[part]
        counts[part] = sum([counts[larger] for _, larger in steps]) if steps else 1
    return counts


def numbered(growth, number):
    """The writing with a number, which is that of one."""
    row = []
    part = growth.first
    while growth.further[part]:
        for unit, larger in growth.further[part]:
            if number < growth.counts[larger]:
                break
            number -= growth.counts[larger]
        row.append(unit)
        part = larger
    return tuple(row)


def number_of(growth, row):
    """The number of a writing."""
    number = 0
    part = growth.first
    for unit in row:
        steps = growth.further[part]
        number = number + sum([growth.counts[larger] for other, larger in steps if other < unit])
        part = [larger for other, larger in steps if other == unit][0]
    return number
