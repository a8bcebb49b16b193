"""The earliest days of all works of all ships, and what binds them."""

from afloatintime.errors import BadPart, BadShip, BadTrail
from afloatintime.lateness import by_spot, check_lateness
from afloatintime.reckoning import first_days
from afloatintime.values import is_between, is_from, is_one_of, is_row_of_days, is_tuple_of
from afloatintime.yards import check_name, is_need_of, weights_of

MOST_SHIP = 2000
MOST_PART = 200


def check_ship(ship):
    """BadShip unless the number of a ship whose days are told here."""
    if not is_between(ship, 0, MOST_SHIP):
        raise BadShip(ship)


def check_spot(yard, delays, changes, name, ship):
    """What earliest_day and reason raise."""
    check_lateness(yard, delays, changes)
    check_name(yard, name)
    check_ship(ship)


def earliest_days(yard, delays, changes, ship):
    """For each of the ships 0 to ship the earliest days of all works."""
    check_lateness(yard, delays, changes)
    check_ship(ship)
    return first_days(yard, delays, changes, ship + 1)


def earliest_day(yard, delays, changes, name, ship):
    """The earliest day of this work of this ship."""
    check_spot(yard, delays, changes, name, ship)
    return first_days(yard, delays, changes, ship + 1)[ship][yard.names.index(name)]


def is_trail(yard, value):
    """Whether any value is a TRAIL of this YARD."""
    if not is_tuple_of(value, 3):
        return False
    ship, name, needs = value
    if not is_from(ship, 0) or not is_one_of(yard.names, name):
        return False
    if not isinstance(needs, tuple) or not all([is_need_of(yard, need) for need in needs]):
        return False
    for before, behind, _, _ in needs:
        if before != name:
            return False
        name = behind
    return True


def end_and_worth(yard, delays, changes, trail):
    """The ship and the NAME to which this TRAIL comes, and its worth."""
    ship, name, needs = trail
    weights = weights_of(yard)
    longer = by_spot(changes)
    number = by_spot(delays).get((ship, name), 0)
    for need in needs:
        number += weights[need] + longer.get((ship, name), 0)
        ship += need[2]
        name = need[1]
    return (ship, name, number)


def worth(yard, delays, changes, trail):
    """The ship and the NAME to which this TRAIL comes, and its worth."""
    check_lateness(yard, delays, changes)
    if not is_trail(yard, trail):
        raise BadTrail(trail)
    return end_and_worth(yard, delays, changes, trail)


def begins_of(yard, part):
    """The days of this part of a PLAN, by (ship, NAME)."""
    return {(ship, name): day for ship, days in enumerate(part) for name, day in zip(yard.names, days)}


def least_behind(weights, longer, begins, need, ship):
    """The least day that this NEED lets its work behind begin, of this ship; 0 if it says nothing."""
    spot = (ship - need[2], need[0])
    if spot[0] < 0:
        return 0
    return begins[spot] + weights[need] + longer.get(spot, 0)


def need_that_binds(yard, weights, longer, begins, spot):
    """The first NEED that lets the work of this (ship, NAME) begin no earlier than it does."""
    ship, name = spot
    for need in yard.needs:
        if need[1] == name and least_behind(weights, longer, begins, need, ship) == begins[spot]:
            return need
    return None


def reason(yard, delays, changes, name, ship):
    """A TRAIL that comes to this work of this ship, and whose worth is its earliest day."""
    check_spot(yard, delays, changes, name, ship)
    weights = weights_of(yard)
    starts = by_spot(delays)
    longer = by_spot(changes)
    begins = begins_of(yard, first_days(yard, delays, changes, ship + 1))
    trail = []
    while begins[ship, name] > starts.get((ship, name), 0):
        need = need_that_binds(yard, weights, longer, begins, (ship, name))
        trail.append(need)
        ship -= need[2]
        name = need[0]
    return (ship, name, tuple(reversed(trail)))


def shows_reason(yard, delays, changes, name, ship, value):
    """Whether any value is such a TRAIL."""
    day = earliest_day(yard, delays, changes, name, ship)
    return is_trail(yard, value) and end_and_worth(yard, delays, changes, value) == (ship, name, day)


def is_part(yard, value):
    """Whether any value is a part of a PLAN: days of all works of the first ships."""
    if not isinstance(value, tuple) or not 1 <= len(value) <= MOST_PART:
        return False
    return all([is_row_of_days(days, len(yard.names)) for days in value])


def check_part(yard, delays, changes, part):
    """What broken and is_earliest raise."""
    check_lateness(yard, delays, changes)
    if not is_part(yard, part):
        raise BadPart(part)


def broken(yard, delays, changes, part):
    """The first DELAY or NEED that this part of a PLAN breaks; None if there is none."""
    check_part(yard, delays, changes, part)
    weights = weights_of(yard)
    longer = by_spot(changes)
    begins = begins_of(yard, part)
    for ship in range(len(part)):
        for late_ship, name, day in delays:
            if late_ship == ship and begins[ship, name] < day:
                return ("delay", ship, name)
        for need in yard.needs:
            if begins[ship, need[1]] < least_behind(weights, longer, begins, need, ship):
                return ("need", ship, need)
    return None


def is_earliest(yard, delays, changes, part):
    """Whether this part of a PLAN tells the earliest days of its ships."""
    check_part(yard, delays, changes, part)
    return part == first_days(yard, delays, changes, len(part))
