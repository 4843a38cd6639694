"""The errors of the package: each has as attributes what it was made with."""


class PileError(ValueError):
    """Any argument that is refused."""


class BadField(PileError):
    """No field: part is "form", "names" or "pairs"."""

    def __init__(self, part):
        self.part = part


class BadScript(PileError):
    """No script: place is the number of the first item that is no step, or None."""

    def __init__(self, place):
        self.place = place


class BadMoves(PileError):
    """No moves: place is the number of the first that cannot be made, or None."""

    def __init__(self, place):
        self.place = place


class BadYard(PileError):
    """No yard: part is "form", "turn" or "change"."""

    def __init__(self, part):
        self.part = part


class BadSpot(PileError):
    """No spot of the yard: value is what was passed."""

    def __init__(self, value):
        self.value = value


class BadPaper(PileError):
    """No paper: word is "form", or the first word of the paper."""

    def __init__(self, word):
        self.word = word


class BadNumber(PileError):
    """No number that can stand there: value is what was passed."""

    def __init__(self, value):
        self.value = value


class BadClaims(PileError):
    """No claims: place is the number of the first item that is no claim, or None."""

    def __init__(self, place):
        self.place = place


class BadText(PileError):
    """No text: line and word are the numbers of the word that is refused, or None."""

    def __init__(self, line, word):
        self.line = line
        self.word = word


class Unlike(PileError):
    """Piles of several fields: value is the field of the first that has another one."""

    def __init__(self, value):
        self.value = value


class Held(PileError):
    """A step that is held: value is the least number of those by which it is."""

    def __init__(self, value):
        self.value = value


class TooGreat(OverflowError):
    """A result that is greater than is told: most is how great it may be."""

    def __init__(self, most):
        self.most = most
