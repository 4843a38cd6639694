"""Yards: drawings with finitely many spots, told as rows of numbers."""

from deedpiles.errors import BadSpot, BadYard, TooGreat
from deedpiles.fields import need_field, touch_table
from deedpiles.kinds import is_whole
from deedpiles.piles import least_pile, need_script

MOST_SPOTS = 2000


def need_yard(field, yard):
    """The yard itself; BadField, or BadYard for any value that is no yard of the field."""
    names, pairs = need_field(field)
    if not is_yard_form(names, yard):
        raise BadYard("form")
    if not all([is_turn(row, len(yard[0])) for row in yard]):
        raise BadYard("turn")
    rows = dict(zip(names, yard))
    if not all([do_change_places(rows[one], rows[other]) for one, other in pairs]):
        raise BadYard("change")
    return yard


def led(field, yard, deeds, spot):
    """The spot to which a script leads from a spot; BadSpot for any value that is none."""
    need_yard(field, yard)
    need_script(field, deeds)
    if not is_whole(spot) or not 0 <= spot < len(yard[0]):
        raise BadSpot(spot)
    return all_led(field, yard, deeds)[spot]


def do_alike_in(field, yard, one, other):
    """Whether two scripts lead each spot of a yard to the same one."""
    need_yard(field, yard)
    need_script(field, one)
    need_script(field, other)
    return all_led(field, yard, one) == all_led(field, yard, other)


def yard_of(field, deeds):
    """The yard of the pile of a script, or None if that is empty; TooGreat for more than 2,000 spots."""
    pieces = least_pile(field, deeds)
    if pieces == ():
        return None
    return yard_of_pile(field, pieces)


def is_yard_form(names, value):
    """Whether any value has an item for each name, the first one a tuple that is not too long."""
    if not isinstance(value, tuple) or len(value) != len(names):
        return False
    return isinstance(value[0], tuple) and 1 <= len(value[0]) <= MOST_SPOTS


def is_turn(value, many):
    """Whether any value is a tuple of the numbers from 0 to below so many, each once."""
    if not isinstance(value, tuple) or not all([is_whole(item) for item in value]):
        return False
    return sorted(value) == list(range(many))


def do_change_places(one, other):
    """Whether two rows lead each spot to the same one, whichever comes first."""
    return [one[spot] for spot in other] == [other[spot] for spot in one]


def all_led(field, yard, steps):
    """The spots to which steps lead the spots of a yard, in their order."""
    names, _ = field
    rows = dict(zip(names, yard))
    spots = list(range(len(yard[0])))
    for name, times in steps:
        told = done_times(rows[name], times)
        spots = [told[spot] for spot in spots]
    return spots


def done_times(row, times):
    """The spots to which a row leads, done so many times; taken back below 0."""
    told = [-1] * len(row)
    for spot in range(len(row)):
        if told[spot] < 0:
            trip = round_trip(row, spot)
            for at, place in enumerate(trip):
                told[place] = trip[(at + times) % len(trip)]
    return told


def round_trip(row, spot):
    """The spots to which a row leads one after the other, until it comes back."""
    trip = [spot]
    while row[trip[-1]] != spot:
        trip.append(row[trip[-1]])
    return trip


def yard_of_pile(field, pieces):
    """The yard of a least pile that is not empty."""
    names, _ = field
    by_name = {name: modulus_of(pieces, name) for name in names}
    moduli = [by_name[name] for name, _ in pieces]
    gates = gates_of(touch_table(field), pieces, moduli)
    places = {name: [at for at, piece in enumerate(pieces) if piece[0] == name] for name in names}
    rows = {name: [] for name in names}
    spots = [(0,) * len(pieces)]
    numbers = {spots[0]: 0}
    number = 0
    while number < len(spots):
        for name in names:
            spot = led_along(spots[number], places[name], gates, moduli)
            if spot not in numbers:
                if len(spots) == MOST_SPOTS:
                    raise TooGreat(MOST_SPOTS)
                numbers[spot] = len(spots)
                spots.append(spot)
            rows[name].append(numbers[spot])
        number += 1
    return tuple([tuple(rows[name]) for name in names])


def modulus_of(pieces, name):
    """The least integer from 2 on by which no TIMES of a name can be divided."""
    all_times = [times for other, times in pieces if other == name]
    modulus = 2
    while any([times % modulus == 0 for times in all_times]):
        modulus += 1
    return modulus


def gates_of(touch, pieces, moduli):
    """For each piece what others have to tell at a spot at which it is free, as pairs of a place and a number."""
    # At the spots to which names lead, a piece that has begun has all that it lies on done. So those that
    # touch a piece tell enough: with them, all others below it are done, and all others above it have 0.
    gates = []
    for at, (name, _) in enumerate(pieces):
        near = [place for place, (other, _) in enumerate(pieces) if other in touch[name] and place != at]
        gates.append([(place, pieces[place][1] % moduli[place] if place < at else 0) for place in near])
    return gates


def led_along(spot, places, gates, moduli):
    """The spot to which a name leads, its pieces having these places."""
    for at in places:
        if is_open(spot, gates[at]):
            return spot[:at] + ((spot[at] + 1) % moduli[at],) + spot[at + 1:]
    return spot


def is_open(spot, gate):
    """Whether the others tell at a spot what they have to."""
    for at, number in gate:
        if spot[at] != number:
            return False
    return True
