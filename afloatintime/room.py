"""Room: how late a part may come, and how much longer a work may last, with nothing moved that counts."""

from afloatintime.chains import begins_at, ends_at, is_chain, needs_of
from afloatintime.climbs import days_and_back
from afloatintime.errors import BadSpot, Same, TooLong
from afloatintime.latest import latest_days, latest_rows, place_in_turn
from afloatintime.rounds import difference, number_at
from afloatintime.tables import FARTHEST, column, table
from afloatintime.values import is_between, is_from, is_one_of, is_tuple_of
from afloatintime.yards import check_name, check_yard, weights_of

MOST_APART = 1000


def is_spot(yard, value):
    """Whether any value is a SPOT of this YARD."""
    return is_tuple_of(value, 2) and is_between(value[0], 0, FARTHEST) and is_one_of(yard.names, value[1])


def check_spot(yard, spot):
    """NoYard, BadSpot unless a YARD and a SPOT of it."""
    check_yard(yard)
    if not is_spot(yard, spot):
        raise BadSpot(spot)


def check_spot_and_goal(yard, spot, goal):
    """What room, lasting_room and binding raise, but TooLong."""
    check_spot(yard, spot)
    check_name(yard, goal)


def begin_of(yard, told, spot):
    """The earliest day of this SPOT."""
    return number_at(column(yard, told, spot[1]), spot[0])


def latest_of(latest, spot):
    """The day of this SPOT among these, by NAMES; None if there is none."""
    return number_at(latest[spot[1]], spot[0]) if spot[1] in latest else None


def latest_ahead(yard, latest, spot):
    """The greatest day from which no NEED leads from this SPOT beyond these, by NAMES; None if there is none."""
    ship, name = spot
    weights = weights_of(yard)
    needs = [need for need in yard.needs if need[0] == name and need[1] in latest]
    return min([number_at(latest[need[1]], ship + need[2]) - weights[need] for need in needs], default=None)


def days_between(begin, day):
    """How many days there are from begin to day; None without a day."""
    return None if day is None else day - begin


def room(yard, spot, goal):
    """By how many days this SPOT may begin later with no begin of goal moved; None if by any number."""
    check_spot_and_goal(yard, spot, goal)
    told = table(yard, (), ())
    return days_between(begin_of(yard, told, spot), latest_of(latest_days(yard, told, goal), spot))


def lasting_room(yard, spot, goal):
    """By how many days this SPOT may last longer with no begin of goal moved; None if by any number."""
    check_spot_and_goal(yard, spot, goal)
    told = table(yard, (), ())
    return days_between(begin_of(yard, told, spot), latest_ahead(yard, latest_days(yard, told, goal), spot))


def free_room(yard, spot):
    """By how many days this SPOT may begin later with no other begin moved; None if by any number."""
    check_spot(yard, spot)
    told = table(yard, (), ())
    begins = {name: column(yard, told, name) for name in yard.names}
    return days_between(begin_of(yard, told, spot), latest_ahead(yard, begins, spot))


def rooms(yard, name, goal):
    """(firsts, round, more): room for all ships of this work; None if it is None for all of them."""
    check_yard(yard)
    check_name(yard, name)
    check_name(yard, goal)
    told = table(yard, (), ())
    latest = latest_days(yard, told, goal)
    if name not in latest:
        return None
    return difference(latest[name], column(yard, told, name))


def tight_works(yard, goal):
    """The NAMES of all works for which room is 0 for endlessly many ships."""
    check_yard(yard)
    check_name(yard, goal)
    told = table(yard, (), ())
    latest = latest_days(yard, told, goal)
    found = []
    for name in yard.names:
        if name in latest:
            _, again, more = difference(latest[name], column(yard, told, name))
            if more == 0 and 0 in again:
                found.append(name)
    return tuple(found)


def tight_steps(yard, latest, spot):
    """(number, SPOT) for all NEEDS that lead from this SPOT, begun at its latest day, to one at its latest day."""
    ship, name = spot
    day = latest_of(latest, spot)
    weights = weights_of(yard)
    steps = []
    for number, need in enumerate(yard.needs):
        behind = (ship + need[2], need[1])
        if need[0] == name and need[1] in latest and latest_of(latest, behind) - weights[need] == day:
            steps.append((number, behind))
    return steps


def tight_chain(yard, told, latest, spot, goal):
    """(n, numbers): a CHAIN from this SPOT, begun at its latest day, to goal of ship n, begun at its earliest day."""
    begins = column(yard, told, goal)
    ahead = [(spot, ())]
    met = {(place_in_turn(told, spot[0]), spot[1]): True}
    at = 0
    # What is found first is looked at first, and each place of the round once: so no ring is gone round for ever.
    while ahead[at][0][1] != goal or latest_of(latest, ahead[at][0]) != number_at(begins, ahead[at][0][0]):
        own, numbers = ahead[at]
        for number, behind in tight_steps(yard, latest, own):
            place = (place_in_turn(told, behind[0]), behind[1])
            if place not in met:
                met[place] = True
                ahead.append((behind, numbers + (number,)))
        at += 1
    return (ahead[at][0][0], ahead[at][1])


def binding(yard, spot, goal):
    """A CHAIN (n, numbers) by which one day more than room moves goal of ship n; None if room is None."""
    check_spot_and_goal(yard, spot, goal)
    told = table(yard, (), ())
    latest = latest_days(yard, told, goal)
    if spot[1] not in latest:
        return None
    return tight_chain(yard, told, latest, spot, goal)


def leads_to(yard, spot, numbers, end):
    """Whether any value is a CHAIN that leads from this SPOT to this one."""
    if not is_chain(yard, numbers) or not begins_at(yard, numbers, spot[1]) or not ends_at(yard, numbers, end[1]):
        return False
    if not numbers and spot[1] != end[1]:
        return False
    return spot[0] + days_and_back(weights_of(yard), needs_of(yard, numbers))[1] == end[0]


def shows_binding(yard, spot, goal, value):
    """Whether any value is such a CHAIN, or None where room is None."""
    check_spot_and_goal(yard, spot, goal)
    told = table(yard, (), ())
    day = latest_of(latest_days(yard, told, goal), spot)
    if day is None or value is None:
        return day is None and value is None
    if not is_tuple_of(value, 2) or not is_from(value[0], 0) or not leads_to(yard, spot, value[1], (value[0], goal)):
        return False
    days = days_and_back(weights_of(yard), needs_of(yard, value[1]))[0]
    return day + days == begin_of(yard, told, (value[0], goal))


def latest_along(yard, latest, one, other):
    """The latest day of the SPOT one by the CHAINS that lead through other, and on by NEEDS; None without any."""
    day = latest_ahead(yard, latest, other)
    if day is None or one[0] > other[0]:
        return None
    return latest_rows(yard, {other: day}, one[0], other[0])[0][yard.names.index(one[1])]


def pair_room(yard, one, other, goal):
    """(first, second, together): by how many days two SPOTS may last longer with no begin of goal moved."""
    check_spot(yard, one)
    check_spot(yard, other)
    if one == other:
        raise Same(one)
    check_name(yard, goal)
    if abs(one[0] - other[0]) > MOST_APART:
        raise TooLong(None)
    told = table(yard, (), ())
    latest = latest_days(yard, told, goal)
    begin, other_begin = begin_of(yard, told, one), begin_of(yard, told, other)
    first = days_between(begin, latest_ahead(yard, latest, one))
    second = days_between(other_begin, latest_ahead(yard, latest, other))
    together = days_between(begin, latest_along(yard, latest, one, other))
    # No CHAIN leads there and back again: it would go round with no ship between.
    if together is None:
        together = days_between(other_begin, latest_along(yard, latest, other, one))
    return (first, second, together)
