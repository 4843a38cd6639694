"""What the document says, taken at its words: slow, and apart from the program."""

from itertools import combinations, islice, product

DEEP = "x"
for _ in range(48):
    DEEP = (DEEP,)

# Values of every kind; none of them is a field, a script, a step or a name.
STRANGE = (
    0, 1, -1, 10 ** 30, True, False, None, "", "a b", "A", "\n", [], ["a"], [("a", 1)], {}, {"a": 1},
    {("a",): ()}, ([],), ({},), (None,), (True,), ("a", True), ("a", "b", "c"), ((("a",),),), DEEP,
)


def fields_of(names):
    """All fields of these names."""
    pairs = list(combinations(names, 2))
    for many in range(len(pairs) + 1):
        for apart in combinations(pairs, many):
            yield (names, apart)


def scripts_of(names, times, many, each=1):
    """All scripts of so many steps, or each so-manieth of them."""
    steps = [(name, number) for name in names for number in times]
    return islice(product(steps, repeat=many), 0, None, each)


def apart(field, one, other):
    return (one, other) in field[1] or (other, one) in field[1]


def next_forms(field, script):
    """What a script becomes by one move."""
    for at in range(len(script) - 1):
        (one, some), (other, more) = script[at], script[at + 1]
        if apart(field, one, other):
            yield script[:at] + (script[at + 1], script[at]) + script[at + 2:]
        if one == other:
            sum_of_both = ((one, some + more),) if some + more else ()
            yield script[:at] + sum_of_both + script[at + 2:]


def all_forms(field, script):
    """All that a script becomes by moves."""
    seen = {script}
    waiting = [script]
    while waiting:
        for form in next_forms(field, waiting.pop()):
            if form not in seen:
                seen.add(form)
                waiting.append(form)
    return seen


def come_together(field, script, low, high):
    name = script[low][0]
    between = [step[0] for step in script[low + 1:high]]
    return name == script[high][0] and all(apart(field, name, other) for other in between)


def no_two_come_together(field, script):
    return not any(come_together(field, script, low, high) for low, high in combinations(range(len(script)), 2))


def can_stand_first(field, pile):
    """The places of the pieces that can stand first."""
    return [at for at, (name, _) in enumerate(pile) if all(apart(field, name, other) for other, _ in pile[:at])]


def in_least_order(field, pile):
    left, row = list(pile), []
    while left:
        at = min(can_stand_first(field, left), key=lambda place: left[place][0])
        row.append(left.pop(at))
    return tuple(row)


def some_pile(field, script):
    """A pile of a script: its moves made wherever they can be made first."""
    script = tuple(script)
    for low, high in combinations(range(len(script)), 2):
        if come_together(field, script, low, high):
            name, times = script[low][0], script[low][1] + script[high][1]
            both = ((name, times),) if times else ()
            return some_pile(field, script[:low] + both + script[low + 1:high] + script[high + 1:])
    return script


def least_of(field, script):
    return in_least_order(field, some_pile(field, script))


def taken_back_of(script):
    return tuple((name, -times) for name, times in reversed(script))


class Drawing:
    """The yard of a pile that is not empty, its spots told as tuples."""

    def __init__(self, field, pile):
        self.field = field
        self.pile = in_least_order(field, pile)
        self.moduli = [self.modulus(name) for name, _ in self.pile]
        places = range(len(self.pile))
        self.below = [[low for low in places if self.has_to_be_ahead(low, high)] for high in places]

    def modulus(self, name):
        number = 2
        while any(times % number == 0 for other, times in self.pile if other == name):
            number += 1
        return number

    def has_to_be_ahead(self, low, high):
        if low >= high:
            return False
        names = [name for name, _ in self.pile]
        if not apart(self.field, names[low], names[high]):
            return True
        return any(self.has_to_be_ahead(low, at) and self.has_to_be_ahead(at, high) for at in range(low + 1, high))

    def is_free(self, spot, at):
        over = [high for high in range(len(self.pile)) if at in self.below[high]]
        done = all(spot[low] == self.pile[low][1] % self.moduli[low] for low in self.below[at])
        return done and all(spot[high] == 0 for high in over)

    def led(self, spot, name, sign):
        for at, (other, _) in enumerate(self.pile):
            if other == name and self.is_free(spot, at):
                return spot[:at] + ((spot[at] + sign) % self.moduli[at],) + spot[at + 1:]
        return spot

    def led_by(self, script):
        """The spot to which a script leads from the one with 0 for all pieces."""
        spot = (0,) * len(self.pile)
        for name, times in script:
            for _ in range(abs(times)):
                spot = self.led(spot, name, 1 if times > 0 else -1)
        return spot
