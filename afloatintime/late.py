"""What a late part moves: which works of which ships, by how many days, and until which ship."""

from afloatintime.lateness import check_lateness
from afloatintime.rounds import difference, number_at
from afloatintime.tables import check_far_ship, column, table
from afloatintime.yards import check_name


def both_tables(yard, delays, changes):
    """The TABLES without and with what comes late."""
    return (table(yard, (), ()), table(yard, delays, changes))


def moves_of(yard, tables, name):
    """By how many days this work is moved, as numbers that come round."""
    without_late, with_late = tables
    return difference(column(yard, with_late, name), column(yard, without_late, name))


def moves_of_work(yard, delays, changes, name):
    """The same, with the errors of what tells of one work."""
    check_lateness(yard, delays, changes)
    check_name(yard, name)
    return moves_of(yard, both_tables(yard, delays, changes), name)


def moved(yard, delays, changes):
    """For each of the WORKS (NAME, firsts, round): by how many days it is moved, for all ships."""
    check_lateness(yard, delays, changes)
    tables = both_tables(yard, delays, changes)
    return tuple([(name,) + moves_of(yard, tables, name)[:2] for name in yard.names])


def moved_at(yard, delays, changes, name, ship):
    """By how many days this work of this ship is moved."""
    check_lateness(yard, delays, changes)
    check_name(yard, name)
    check_far_ship(ship)
    return number_at(moves_of(yard, both_tables(yard, delays, changes), name), ship)


def last_moved(yard, delays, changes, name):
    """The last ship of which this work is moved, or "none", or "always"."""
    firsts, again, _ = moves_of_work(yard, delays, changes, name)
    if again != (0,):
        return "always"
    # No days at the end of firsts could be told by the round: so the last of them is moved.
    return len(firsts) - 1 if firsts else "none"


def greatest_moved(yard, delays, changes, name):
    """(days, ship): by how many days this work is ever moved at the most, and the first ship of which it is."""
    firsts, again, _ = moves_of_work(yard, delays, changes, name)
    days = max(firsts + again)
    return (days, (firsts + again).index(days))


def unmoved(yard, delays, changes):
    """The NAMES of all works that are never moved."""
    return tuple([name for name, firsts, again in moved(yard, delays, changes) if firsts + again == (0,)])


def quiet_from(yard, delays, changes):
    """The least ship from which on nothing is moved; None if there is none."""
    rows = moved(yard, delays, changes)
    if not all([again == (0,) for _, _, again in rows]):
        return None
    return max([len(firsts) for _, firsts, _ in rows])
