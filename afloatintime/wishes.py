"""Wishes: the latest days by which wished launchings are kept, or the chain that bars them."""

from afloatintime.chains import best_chains, ends_at, is_chain, needs_of, numbers_of
from afloatintime.climbs import days_and_back, slowest_ring
from afloatintime.days import earliest_day, reason
from afloatintime.errors import BadPace, BadRhythm, BadShip, BadWishes, TooFast
from afloatintime.lateness import are_dated, by_spot
from afloatintime.latest import latest_rows
from afloatintime.values import fraction, is_between, is_from, is_less, is_one_of, is_pace, is_tuple_of
from afloatintime.yards import check_name, check_yard, weights_of

MOST_WISHES = 24


def check_wishes(yard, wishes):
    """NoYard, BadWishes unless a YARD and WISHES of it."""
    check_yard(yard)
    if not are_dated(yard, wishes, MOST_WISHES) or not wishes:
        raise BadWishes(wishes)


def check_ship(ship):
    """BadShip unless the number of a ship."""
    if not is_from(ship, 0):
        raise BadShip(ship)


def latest(yard, wishes, name, ship):
    """The greatest day of this work of this ship from which no CHAIN leads beyond a WISH; None if none leads to one."""
    check_wishes(yard, wishes)
    check_name(yard, name)
    check_ship(ship)
    last = max([own for own, _, _ in wishes])
    if ship > last:
        return None
    return latest_rows(yard, by_spot(wishes), ship, last)[0][yard.names.index(name)]


def slack(yard, wishes, name, ship):
    """By how much the latest day is above the earliest one; None where there is no latest day."""
    day = latest(yard, wishes, name, ship)
    return None if day is None else day - earliest_day(yard, (), (), name, ship)


def too_late(yard, wishes):
    """(number, CHAIN): a WISH, and a CHAIN that bars it; None if all can be kept."""
    check_wishes(yard, wishes)
    for number, (ship, name, day) in enumerate(wishes):
        if earliest_day(yard, (), (), name, ship) > day:
            _, _, needs = reason(yard, (), (), name, ship)
            return (number, numbers_of(yard, needs))
    return None


def leads_beyond(yard, chain, name, ship, day):
    """Whether any value is a CHAIN to this work, with back at most ship, and more days than this (top, bottom)."""
    if not is_chain(yard, chain) or not ends_at(yard, chain, name):
        return False
    days, back = days_and_back(weights_of(yard), needs_of(yard, chain))
    return back <= ship and is_less(day, (days, 1))


def shows_too_late(yard, wishes, value):
    """Whether any value is such a pair, or None where all WISHES can be kept."""
    if value is None:
        return too_late(yard, wishes) is None
    check_wishes(yard, wishes)
    if not is_tuple_of(value, 2) or not is_between(value[0], 0, len(wishes) - 1):
        return False
    ship, name, day = wishes[value[0]]
    return leads_beyond(yard, value[1], name, ship, (day, 1))


def check_rhythm(yard, rhythm):
    """NoYard, BadRhythm unless a YARD and a RHYTHM of it."""
    check_yard(yard)
    if not is_tuple_of(rhythm, 3) or not is_one_of(yard.names, rhythm[0]):
        raise BadRhythm(rhythm)
    if not is_from(rhythm[1], 0) or not is_pace(rhythm[2]):
        raise BadRhythm(rhythm)


def is_slow_enough(yard, name, pace):
    """Whether this pace is at least that of the work."""
    return not is_less(pace, slowest_ring(yard, name)[1])


def greatest_chain(yard, name, pace):
    """(worth, CHAIN): a CHAIN to this work with the greatest days less pace times back, taken times the bottom."""
    return max(list(best_chains(yard, name, pace).values()))


def first_day(yard, name, pace):
    """The least day with which this RHYTHM can be kept; None if it is not slow enough."""
    check_yard(yard)
    check_name(yard, name)
    if not is_pace(pace):
        raise BadPace(pace)
    if not is_slow_enough(yard, name, pace):
        return None
    # Rounded up.
    return -(-greatest_chain(yard, name, pace)[0] // pace[1])


def can_keep(yard, rhythm):
    """Whether some PLAN that keeps the yard keeps the RHYTHM, in all ships."""
    check_rhythm(yard, rhythm)
    name, day, pace = rhythm
    least = first_day(yard, name, pace)
    return least is not None and least <= day


def check_height(yard, rhythm, name):
    """What height raises."""
    check_rhythm(yard, rhythm)
    check_name(yard, name)
    if not is_slow_enough(yard, rhythm[0], rhythm[2]):
        raise TooFast(rhythm)


def height(yard, rhythm, name):
    """The greatest days, less pace times back, of all CHAINS from this work to the RHYTHM's; None without any."""
    check_height(yard, rhythm, name)
    goal, _, pace = rhythm
    best = best_chains(yard, goal, pace)
    return fraction(best[name][0], pace[1]) if name in best else None


def latest_in(yard, rhythm, name, ship):
    """The greatest day of this work of this ship from which no CHAIN leads beyond the RHYTHM; None without any."""
    check_height(yard, rhythm, name)
    check_ship(ship)
    goal, day, pace = rhythm
    top, bottom = pace
    best = best_chains(yard, goal, pace)
    if name not in best:
        return None
    return (day * bottom + ship * top - best[name][0]) // bottom


def too_fast_ring(yard, name):
    """("ring", CHAIN, number): a ring of the pace of this work, and the way on to it."""
    found, pace = slowest_ring(yard, name)
    way = best_chains(yard, name, pace)[found[0][0]][1]
    return ("ring", numbers_of(yard, found) + way, len(found))


def never(yard, rhythm):
    """A paper that the RHYTHM cannot be kept; None if it can."""
    check_rhythm(yard, rhythm)
    name, day, pace = rhythm
    if not is_slow_enough(yard, name, pace):
        return too_fast_ring(yard, name)
    worth, chain = greatest_chain(yard, name, pace)
    if worth <= day * pace[1]:
        return None
    return ("ship", days_and_back(weights_of(yard), needs_of(yard, chain))[1], chain)


def shows_ship(yard, rhythm, ship, chain):
    """Whether a paper ("ship", ship, chain) shows that the RHYTHM cannot be kept."""
    if not is_from(ship, 0):
        return False
    name, day, (top, bottom) = rhythm
    return leads_beyond(yard, chain, name, ship, (day * bottom + ship * top, bottom))


def shows_round(yard, rhythm, chain, number):
    """Whether a paper ("ring", chain, number) shows that the RHYTHM cannot be kept."""
    name, _, pace = rhythm
    if not is_chain(yard, chain) or not ends_at(yard, chain, name) or not is_between(number, 1, len(chain)):
        return False
    needs = needs_of(yard, chain[:number])
    if needs[-1][1] != needs[0][0]:
        return False
    days, back = days_and_back(weights_of(yard), needs)
    return is_less(pace, (days, back))


def shows_never(yard, rhythm, value):
    """Whether any value is such a paper, or None where the RHYTHM can be kept."""
    if value is None:
        return can_keep(yard, rhythm)
    check_rhythm(yard, rhythm)
    if not is_tuple_of(value, 3) or not isinstance(value[0], str):
        return False
    if value[0] == "ship":
        return shows_ship(yard, rhythm, value[1], value[2])
    return value[0] == "ring" and shows_round(yard, rhythm, value[1], value[2])
