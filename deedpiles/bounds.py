"""Numbers that are passed, and their bounds."""

from deedpiles.errors import BadNumber
from deedpiles.kinds import is_whole

MOST_NUMBER = 10 ** 30


def need_number(value, least):
    """The number itself; BadNumber for any value that is no integer from a least one to 10 ** 30."""
    if not is_whole(value) or not least <= value <= MOST_NUMBER:
        raise BadNumber(value)
    return value
