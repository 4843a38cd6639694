"""What the document says, taken at its words: slow, and apart from the program."""

from functools import lru_cache
from itertools import combinations, islice, product

DEEP = "x"
for _ in range(48):
    DEEP = (DEEP,)

# Values of every kind; none of them is a field, a script, a step or a name.
STRANGE = (
    0, 1, -1, 10 ** 30, True, False, None, "", "a b", "A", "\n", [], ["a"], [("a", 1)], {}, {"a": 1},
    {("a",): ()}, ([],), ({},), (None,), (True,), ("a", True), ("a", "b", "c"), ((("a",),),), DEEP,
)


def fields_of(names):
    """All fields of these names."""
    pairs = list(combinations(names, 2))
    for many in range(len(pairs) + 1):
        for apart in combinations(pairs, many):
            yield (names, apart)


def scripts_of(names, times, many, each=1):
    """All scripts of so many steps, or each so-manieth of them."""
    steps = [(name, number) for name in names for number in times]
    return islice(product(steps, repeat=many), 0, None, each)


def apart(field, one, other):
    return (one, other) in field[1] or (other, one) in field[1]


def next_forms(field, script):
    """What a script becomes by one move."""
    for at in range(len(script) - 1):
        (one, some), (other, more) = script[at], script[at + 1]
        if apart(field, one, other):
            yield script[:at] + (script[at + 1], script[at]) + script[at + 2:]
        if one == other:
            sum_of_both = ((one, some + more),) if some + more else ()
            yield script[:at] + sum_of_both + script[at + 2:]


def all_forms(field, script):
    """All that a script becomes by moves."""
    seen = {script}
    waiting = [script]
    while waiting:
        for form in next_forms(field, waiting.pop()):
            if form not in seen:
                seen.add(form)
                waiting.append(form)
    return seen


def come_together(field, script, low, high):
    name = script[low][0]
    between = [step[0] for step in script[low + 1:high]]
    return name == script[high][0] and all(apart(field, name, other) for other in between)


def no_two_come_together(field, script):
    return not any(come_together(field, script, low, high) for low, high in combinations(range(len(script)), 2))


def can_stand_first(field, pile):
    """The places of the pieces that can stand first."""
    return [at for at, (name, _) in enumerate(pile) if all(apart(field, name, other) for other, _ in pile[:at])]


def in_least_order(field, pile):
    left, row = list(pile), []
    while left:
        at = min(can_stand_first(field, left), key=lambda place: left[place][0])
        row.append(left.pop(at))
    return tuple(row)


def some_pile(field, script):
    """A pile of a script: its moves made wherever they can be made first."""
    script = tuple(script)
    for low, high in combinations(range(len(script)), 2):
        if come_together(field, script, low, high):
            name, times = script[low][0], script[low][1] + script[high][1]
            both = ((name, times),) if times else ()
            return some_pile(field, script[:low] + both + script[low + 1:high] + script[high + 1:])
    return script


@lru_cache(maxsize=None)
def least_of(field, script):
    return in_least_order(field, some_pile(field, script))


def taken_back_of(script):
    return tuple((name, -times) for name, times in reversed(script))


def alike(field, one, other):
    return least_of(field, one) == least_of(field, other)


def length_by(pile):
    return sum(abs(times) for _, times in pile)


def units_of(script):
    """The steps of a script, each of them done or taken back just once."""
    return tuple((name, 1 if times > 0 else -1) for name, times in script for _ in range(abs(times)))


def rows_of(field, script):
    """All rows of units of the pile of a script, by changes of neighbours that are apart."""
    seen = {units_of(some_pile(field, script))}
    waiting = list(seen)
    while waiting:
        row = waiting.pop()
        for at in range(len(row) - 1):
            if apart(field, row[at][0], row[at + 1][0]):
                form = row[:at] + (row[at + 1], row[at]) + row[at + 2:]
                if form not in seen:
                    seen.add(form)
                    waiting.append(form)
    return seen


@lru_cache(maxsize=None)
def lower_parts(field, script):
    """The least piles of all lower parts of the pile of a script."""
    return {least_of(field, row[:at]) for row in rows_of(field, script) for at in range(len(row) + 1)}


def piles_above(field, pile, many):
    """The least piles that come from a pile by at most so many units behind it, each of them making it longer."""
    found = {least_of(field, pile)}
    for _ in range(many):
        longer = {least_of(field, low + ((name, sign),)) for low in found for name in field[0] for sign in (1, -1)}
        found |= {high for high in longer if any(length_by(high) == length_by(low) + 1 for low in found)}
    return {high for high in found if least_of(field, pile) in lower_parts(field, high)}


def can_stand_last(field, pile):
    return [len(pile) - 1 - at for at in can_stand_first(field, pile[::-1])]


def is_round(field, pile):
    """Whether no name has two different pieces, one of which can stand first, and the other one last."""
    return not any(pile[low][0] == pile[high][0] and low != high
                   for low in can_stand_first(field, pile) for high in can_stand_last(field, pile))


def parts_of(field, pile):
    """The parts of a round pile, as they stand in it."""
    parts = []
    for at, (name, _) in enumerate(pile):
        near = [part for part in parts if any(not apart(field, name, pile[other][0]) for other in part)]
        parts = [part for part in parts if part not in near] + [sorted(sum(near, [at]))]
    return [tuple(pile[at] for at in part) for part in parts]


@lru_cache(maxsize=None)
def round_turns(field, script):
    """The least piles of all round piles that are turns of a script, by turning it unit by unit."""
    first = least_of(field, script)
    seen, waiting = {first}, [first]
    while waiting:
        pile = waiting.pop()
        for name in field[0]:
            for sign in (1, -1):
                turn = least_of(field, ((name, -sign),) + pile + ((name, sign),))
                if turn not in seen and length_by(turn) <= length_by(pile):
                    seen.add(turn)
                    waiting.append(turn)
    return {pile for pile in seen if is_round(field, pile)}


def turn_form_of(field, script):
    """The least pile of the least pointed turns of all parts of a round pile that is a turn of a script."""
    least = []
    for part in parts_of(field, min(round_turns(field, script))):
        turns = [turn for turn in round_turns(field, part) if len(can_stand_first(field, turn)) == 1]
        least.append(min(turn for turn in turns if turn[0][0] == min(part)[0]))
    return least_of(field, sum(least, ()))


def is_root(field, pile):
    """Whether a pile is round, of one part, and none of its lower parts is, two or more times, alike to it."""
    if not is_round(field, pile) or len(parts_of(field, pile)) != 1:
        return False
    lower = [low for low in lower_parts(field, pile) if low]
    return not any(alike(field, low * (length_by(pile) // length_by(low)), pile) for low in lower if length_by(low) < length_by(pile))


def some_piles(field, most):
    """All least piles of at most so much LENGTH."""
    found = {()}
    for _ in range(most):
        found |= {least_of(field, low + ((name, sign),)) for low in found for name in field[0] for sign in (1, -1)}
    return sorted(found)


def is_times(value):
    return value.__class__ is int and 0 < abs(value) <= 10 ** 30


def is_step(field, value):
    return value.__class__ is tuple and len(value) == 2 and value[0] in field[0] and is_times(value[1])


def after(field, steps, move):
    """The steps that a move makes of others, or None if it cannot be made."""
    if move.__class__ is not tuple or len(move) < 2 or move[1].__class__ is not int or move[1] < 0:
        return None
    word, at, rest = move[0], move[1], list(steps)
    if word == "change" and len(move) == 2 and at + 1 < len(rest) and apart(field, rest[at][0], rest[at + 1][0]):
        rest.insert(at, rest.pop(at + 1))
    elif word == "join" and len(move) == 2 and at + 1 < len(rest) and rest[at][0] == rest[at + 1][0]:
        (name, some), (_, more) = rest[at:at + 2]
        rest[at:at + 2] = [(name, some + more)] if some + more != 0 else []
    elif word == "part" and len(move) == 3 and at < len(rest) and is_times(move[2]) and move[2] != rest[at][1]:
        name, whole = rest[at]
        rest[at:at + 1] = [(name, move[2]), (name, whole - move[2])]
    elif word == "put" and len(move) == 3 and at <= len(rest) and is_step(field, move[2]):
        rest[at:at] = [move[2], (move[2][0], -move[2][1])]
    else:
        return None
    return tuple(rest) if len(rest) <= 400 else None


def follow(field, steps, moves):
    """The steps that moves make of others, each of which can be made."""
    for move in moves:
        steps = after(field, steps, move)
    return steps


class Drawing:
    """The yard of a pile that is not empty, its spots told as tuples."""

    def __init__(self, field, pile):
        self.field = field
        self.pile = in_least_order(field, pile)
        self.moduli = [self.modulus(name) for name, _ in self.pile]
        self.below = []
        for at in range(len(self.pile)):
            self.below.append({low for low in range(at) if self.has_to_be_ahead(low, at)})
        self.over = [[high for high, low in enumerate(self.below) if at in low] for at in range(len(self.pile))]

    def modulus(self, name):
        number = 2
        while any(times % number == 0 for other, times in self.pile if other == name):
            number += 1
        return number

    def has_to_be_ahead(self, low, high):
        """Whether one piece touches another one behind it, or has to be ahead of one that does."""
        names = [name for name, _ in self.pile]
        over = [at for at in range(low + 1, high) if low in self.below[at]]
        return any(not apart(self.field, names[at], names[high]) for at in [low] + over)

    def is_free(self, spot, at):
        done = all(spot[low] == self.pile[low][1] % self.moduli[low] for low in self.below[at])
        return done and all(spot[high] == 0 for high in self.over[at])

    def led(self, spot, name, sign):
        for at, (other, _) in enumerate(self.pile):
            if other == name and self.is_free(spot, at):
                return spot[:at] + ((spot[at] + sign) % self.moduli[at],) + spot[at + 1:]
        return spot

    def first(self):
        return (0,) * len(self.pile)

    def led_by(self, script):
        """The spot to which a script leads from the one with 0 for all pieces."""
        spot = self.first()
        for name, sign in units_of(script):
            spot = self.led(spot, name, sign)
        return spot

    def all_spots(self):
        """The spots to which names lead from the first one."""
        spots = [self.first()]
        seen = set(spots)
        while spots:
            spot = spots.pop()
            for name in self.field[0]:
                further = self.led(spot, name, 1)
                if further not in seen:
                    seen.add(further)
                    spots.append(further)
        return seen

    def is_told_by(self, yard):
        """Whether a yard tells just the spots to which names lead from the first one, which is 0 there."""
        numbers = {self.first(): 0}
        waiting = [self.first()]
        while waiting:
            spot = waiting.pop()
            for row, name in zip(yard, self.field[0]):
                further = self.led(spot, name, 1)
                if further not in numbers:
                    numbers[further] = row[numbers[spot]]
                    waiting.append(further)
                if numbers[further] != row[numbers[spot]]:
                    return False
        return sorted(numbers.values()) == list(range(len(yard[0])))
