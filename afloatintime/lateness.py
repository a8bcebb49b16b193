"""DELAYS and CHANGES: what comes late, once."""

from afloatintime.errors import BadChanges, BadDelays
from afloatintime.values import is_ascending, is_between, is_from, is_one_of, is_tuple_of
from afloatintime.yards import check_yard

MOST_ROWS = 12
MOST_SHIP = 99
MOST_MORE = 99


def names_spot(yard, value):
    """Whether any value is a tuple (ship, NAME, and one more value)."""
    return is_tuple_of(value, 3) and is_between(value[0], 0, MOST_SHIP) and is_one_of(yard.names, value[1])


def are_rows(yard, value, most):
    """Whether any value is like DELAYS, CHANGES and WISHES, at most so many, but for what stands behind the NAMES."""
    if not isinstance(value, tuple) or len(value) > most:
        return False
    if not all([names_spot(yard, row) for row in value]):
        return False
    return is_ascending([(ship, name) for ship, name, _ in value])


def are_dated(yard, value, most):
    """Whether any value is like DELAYS and WISHES of this YARD, at most so many."""
    return are_rows(yard, value, most) and all([is_from(day, 0) for _, _, day in value])


def are_delays(yard, value):
    """Whether any value is DELAYS of this YARD."""
    return are_dated(yard, value, MOST_ROWS)


def are_changes(yard, value):
    """Whether any value is CHANGES of this YARD."""
    return are_rows(yard, value, MOST_ROWS) and all([is_between(more, 1, MOST_MORE) for _, _, more in value])


def check_lateness(yard, delays, changes):
    """NoYard, BadDelays, BadChanges unless a YARD, and DELAYS and CHANGES of it."""
    check_yard(yard)
    if not are_delays(yard, delays):
        raise BadDelays(delays)
    if not are_changes(yard, changes):
        raise BadChanges(changes)


def by_spot(rows):
    """What DELAYS, CHANGES or WISHES tell, by (ship, NAME)."""
    return {(ship, name): number for ship, name, number in rows}
