"""DELAYS and CHANGES: what comes late, once."""

from afloatintime.errors import BadChanges, BadDelays
from afloatintime.values import is_ascending, is_between, is_from, is_one_of, is_tuple_of
from afloatintime.yards import check_yard

MOST_ROWS = 12
MOST_SHIP = 99
MOST_MORE = 99


def names_spot(yard, value):
    """Whether any value is a tuple (ship, NAME, and one more value)."""
    return is_tuple_of(value, 3) and is_between(value[0], 0, MOST_SHIP) and is_one_of(yard.names, value[1])


def are_rows(yard, value):
    """Whether any value is like DELAYS and CHANGES, but for what stands behind the NAMES."""
    if not isinstance(value, tuple) or len(value) > MOST_ROWS:
        return False
    if not all([names_spot(yard, row) for row in value]):
        return False
    return is_ascending([(ship, name) for ship, name, _ in value])


def are_delays(yard, value):
    """Whether any value is DELAYS of this YARD."""
    return are_rows(yard, value) and all([is_from(day, 0) for _, _, day in value])


def are_changes(yard, value):
    """Whether any value is CHANGES of this YARD."""
    return are_rows(yard, value) and all([is_between(more, 1, MOST_MORE) for _, _, more in value])


def check_lateness(yard, delays, changes):
    """NoYard, BadDelays, BadChanges unless a YARD, and DELAYS and CHANGES of it."""
    check_yard(yard)
    if not are_delays(yard, delays):
        raise BadDelays(delays)
    if not are_changes(yard, changes):
        raise BadChanges(changes)


def by_spot(rows):
    """What DELAYS or CHANGES tell, by (ship, NAME)."""
    return {(ship, name): number for ship, name, number in rows}
