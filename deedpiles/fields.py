"""Fields: the names of deeds, and which of them are apart."""

from deedpiles.errors import BadField
from deedpiles.kinds import is_ascending, is_pair

MOST_NAMES = 6
MOST_LETTERS = 6


def need_field(field):
    """The field itself; BadField for any value that is none."""
    if not is_pair(field):
        raise BadField("form")
    names, pairs = field
    if not are_names(names):
        raise BadField("names")
    if not are_pairs(names, pairs):
        raise BadField("pairs")
    return field


def touching(field, name):
    """The names that touch a name, ascending; none for what is no name of the field."""
    names, _ = need_field(field)
    if name not in names:
        return ()
    return names_touching(field, name)


def touch_table(field):
    """For each name of a field the names that touch it."""
    names, _ = field
    return {name: names_touching(field, name) for name in names}


def names_touching(field, name):
    """The names that touch a name of the field, ascending."""
    names, pairs = field
    return tuple([other for other in names if not are_apart(pairs, name, other)])


def are_apart(pairs, one, other):
    """Whether two names are apart, by the pairs of their field."""
    return (min(one, other), max(one, other)) in pairs


def are_names(value):
    """Whether any value can be the names of a field."""
    if not isinstance(value, tuple) or not 1 <= len(value) <= MOST_NAMES:
        return False
    # Only strings can be compared with one another, so that comes first.
    return all([is_name(item) for item in value]) and is_ascending(value)


def is_name(value):
    """Whether any value is a string of 1 to 6 letters a to z."""
    if not isinstance(value, str) or not 1 <= len(value) <= MOST_LETTERS:
        return False
    return all(["a" <= letter <= "z" for letter in value])


def are_pairs(names, value):
    """Whether any value can be the pairs of a field with these names."""
    if not isinstance(value, tuple):
        return False
    return all([is_pair_of(names, item) for item in value]) and is_ascending(value)


def is_pair_of(names, value):
    """Whether any value is a pair of these names, the first one less."""
    if not is_pair(value):
        return False
    one, other = value
    return one in names and other in names and one < other
