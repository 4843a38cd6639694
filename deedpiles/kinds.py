"""Of which kind any value is."""


def is_whole(value):
    """Whether any value is an integer."""
    # To Python, True and False are integers; to this package they are not.
    return isinstance(value, int) and not isinstance(value, bool)


def is_pair(value):
    """Whether any value is a tuple of two."""
    return isinstance(value, tuple) and len(value) == 2


def is_ascending(items):
    """Whether each item is greater than the one before it."""
    return all([one < other for one, other in zip(items, items[1:])])
