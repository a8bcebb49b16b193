"""Pictures: what is told, as a text that one can look at."""

from afloatintime.errors import BadDay, BadNumber, BadShips
from afloatintime.reckoning import first_days
from afloatintime.values import is_ascending, is_between
from afloatintime.yards import check_yard

MOST_SHIPS = 6
MOST_SHIP = 999
MOST_FIRST = 99999
MOST_SIGNS = 100
WIDTH = 9


def are_ships(value):
    """Whether any value is an ascending tuple of 1 to 6 ships that may be shown."""
    if not isinstance(value, tuple) or not 1 <= len(value) <= MOST_SHIPS:
        return False
    return all([is_between(ship, 0, MOST_SHIP) for ship in value]) and is_ascending(value)


def sign_of(begin, last, day):
    """The sign for a work that begins on one day, and lasts so long, on another day."""
    if last == 0:
        return "|" if begin == day else "."
    return "#" if begin <= day < begin + last else "."


def chart(yard, ships, first, many):
    """For each ship a line for each work, with a sign for each of so many days from first on."""
    check_yard(yard)
    if not are_ships(ships):
        raise BadShips(ships)
    if not is_between(first, 0, MOST_FIRST):
        raise BadDay(first)
    if not is_between(many, 1, MOST_SIGNS):
        raise BadNumber(many)
    rows = first_days(yard, (), (), ships[-1] + 1)
    lines = []
    for ship in ships:
        for (name, last), begin in zip(yard.works, rows[ship]):
            signs = [sign_of(begin, last, day) for day in range(first, first + many)]
            lines.append(name.ljust(WIDTH) + "".join(signs))
    return "\n".join(lines)
