"""One finite table for all ships to come."""

from afloatintime.climbs import slowest_ring
from afloatintime.errors import BadDay, BadShip, TooLong
from afloatintime.lateness import check_lateness
from afloatintime.reckoning import first_days
from afloatintime.rings import paces
from afloatintime.rounds import number_at, shortest
from afloatintime.values import is_between, is_from, is_row_of_days, is_tuple_of
from afloatintime.yards import check_name

# A TABLE has 1000 lines at most. Most are short: the many ships that a long one wants are reckoned for these only.
LIMITS = (25, 150, 1000)
FARTHEST = 1000000000000000000


def behind_late(delays, changes):
    """The first ship behind all that DELAYS and CHANGES name."""
    return max([ship + 1 for ship, _, _ in delays + changes], default=0)


def greatest_back(yard):
    """The greatest back of all NEEDS; 0 without any."""
    return max([need[2] for need in yard.needs], default=0)


def levels_of(yard, rows):
    """The days of each ship, less what the paces come to: days that come round are equal then."""
    steps = [step for _, step in paces(yard)]
    levels = []
    for ship, days in enumerate(rows):
        levels.append([day * bottom - ship * top for day, (top, bottom) in zip(days, steps)])
    return levels


def come_again(levels, first, turn, end):
    """Whether the levels of all ships from first to the one ahead of end come again one turn later."""
    return levels[first:end] == levels[first + turn : end + turn]


def shortest_table(yard, delays, changes, most):
    """The TABLE of least round, then least first; None if these together are above most."""
    late = behind_late(delays, changes)
    back = greatest_back(yard)
    rows = first_days(yard, delays, changes, late + back + 2 * most)
    levels = levels_of(yard, rows)
    for turn in range(1, most + 1):
        first = most - turn
        # What comes again for so many ships does so for ever: section 7 of the document tells why.
        if come_again(levels, first, turn, max(first, late) + back + turn):
            while first > 0 and levels[first - 1] == levels[first - 1 + turn]:
                first -= 1
            return (first, turn, rows[: first + turn])
    return None


def table(yard, delays, changes):
    """The TABLE with the least round, and of those with this round the one with the least first."""
    check_lateness(yard, delays, changes)
    for most in LIMITS:
        found = shortest_table(yard, delays, changes, most)
        if found is not None:
            return found
    raise TooLong(None)


def is_like_table(yard, value):
    """Whether any value is like a TABLE of this YARD, whatever days it tells."""
    if not is_tuple_of(value, 3):
        return False
    first, turn, lines = value
    if not is_from(first, 0) or not is_from(turn, 1) or not is_tuple_of(lines, first + turn):
        return False
    return all([is_row_of_days(line, len(yard.names)) for line in lines])


def shows_table(yard, delays, changes, value):
    """Whether any value is a TABLE, least or not, and however long."""
    check_lateness(yard, delays, changes)
    if not is_like_table(yard, value):
        return False
    first, turn, lines = value
    end = max(first, behind_late(delays, changes)) + greatest_back(yard) + turn
    rows = first_days(yard, delays, changes, end + turn)
    return rows[: first + turn] == lines and come_again(levels_of(yard, rows), first, turn, end)


def column(yard, told, name):
    """The days of this work in a TABLE, as numbers that come round."""
    _, turn, lines = told
    place = yard.names.index(name)
    top, bottom = slowest_ring(yard, name)[1]
    return shortest([line[place] for line in lines], turn, turn * top // bottom)


def check_far_ship(ship):
    """BadShip unless the number of a ship of which a TABLE is asked."""
    if not is_between(ship, 0, FARTHEST):
        raise BadShip(ship)


def day_of(yard, delays, changes, name, ship):
    """The earliest day of this work of this ship, however far on."""
    check_lateness(yard, delays, changes)
    check_name(yard, name)
    check_far_ship(ship)
    return number_at(column(yard, table(yard, delays, changes), name), ship)


def ships_by(yard, delays, changes, name, day):
    """How many ships have a day of this work that is at most day; None if there are endlessly many."""
    check_lateness(yard, delays, changes)
    check_name(yard, name)
    if not is_between(day, 0, FARTHEST):
        raise BadDay(day)
    firsts, again, more = column(yard, table(yard, delays, changes), name)
    if more == 0 and min(again) <= day:
        return None
    many = len([begin for begin in firsts if begin <= day])
    for begin in again:
        if begin <= day:
            many += 1 + (day - begin) // more
    return many


def steady(yard, delays, changes, name):
    """(first, round): from which ship on, and behind how many ships, the days of this work come round."""
    check_lateness(yard, delays, changes)
    check_name(yard, name)
    firsts, again, _ = column(yard, table(yard, delays, changes), name)
    return (len(firsts), len(again))
