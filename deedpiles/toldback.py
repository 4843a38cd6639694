"""Fields told back: which names may be apart, by what is alike and what is not."""

from deedpiles.errors import BadClaims, BadField, TooGreat
from deedpiles.fields import are_names, touch_table
from deedpiles.piles import is_script, piled

MOST_NAMES_TOLD = 4
MOST_CLAIMS = 12


def fields_of(names, claims):
    """The fields of some names in which all claims hold, ascending."""
    need_names(names)
    need_claims(names, claims)
    return tuple([field for field in all_fields(names) if all([does_hold(field, claim) for claim in claims])])


def told_pairs(names, claims):
    """For each pair of names whether it is apart in all fields in which all claims hold; None if there is no field."""
    fields = fields_of(names, claims)
    if fields == ():
        return None
    return tuple([pair + (word_of(fields, pair),) for pair in pairs_of(names)])


def quarrel(names, claims):
    """The numbers of as few claims as can be that hold together in no field, or None."""
    need_names(names)
    need_claims(names, claims)
    fields = all_fields(names)
    holding = [[at for at, field in enumerate(fields) if does_hold(field, claim)] for claim in claims]
    rows = [((), list(range(len(fields))))]
    while rows:
        # The rows ascend, so that the first one that is found is the first one of its size.
        rows = [longer for numbers, left in rows for longer in longer_rows(holding, numbers, left)]
        for numbers, left in rows:
            if left == []:
                return numbers
    return None


def need_names(names):
    """The names themselves; BadField for any value that is none, TooGreat for more than 4."""
    if not are_names(names):
        raise BadField("names")
    if len(names) > MOST_NAMES_TOLD:
        raise TooGreat(MOST_NAMES_TOLD)
    return names


def need_claims(names, claims):
    """The claims themselves; BadClaims for any value that is none on these names."""
    if not isinstance(claims, tuple) or len(claims) > MOST_CLAIMS:
        raise BadClaims(None)
    for place, item in enumerate(claims):
        if not is_claim(names, item):
            raise BadClaims(place)
    return claims


def is_claim(names, value):
    """Whether any value is a claim on these names."""
    if not isinstance(value, tuple) or len(value) != 3:
        return False
    one, other, is_alike = value
    return is_script(names, one) and is_script(names, other) and isinstance(is_alike, bool)


def pairs_of(names):
    """All pairs of names, the first one of each less, ascending."""
    return [(one, other) for one in names for other in names if one < other]


def all_fields(names):
    """All fields of these names, ascending."""
    rows = [()]
    for pair in pairs_of(names):
        rows = rows + [row + (pair,) for row in rows]
    return [(names, row) for row in sorted(rows)]


def does_hold(field, claim):
    """Whether a claim holds in a field."""
    one, other, is_alike = claim
    touch = touch_table(field)
    return (piled(touch, one) == piled(touch, other)) == is_alike


def word_of(fields, pair):
    """Whether a pair of names is apart in all of some fields, in none of them, or in some alone."""
    many = len([pairs for _, pairs in fields if pair in pairs])
    if many == len(fields):
        return "apart"
    return "either" if many > 0 else "touch"


def longer_rows(holding, numbers, left):
    """Rows of claims with one more behind those that are there, each with the fields in which all of them hold."""
    rows = []
    first = numbers[-1] + 1 if numbers else 0
    for number in range(first, len(holding)):
        rows.append((numbers + (number,), [at for at in left if at in holding[number]]))
    return rows
