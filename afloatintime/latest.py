"""The latest days of works, from which no chain of NEEDS leads beyond what is to be kept."""

from afloatintime.climbs import slowest_ring
from afloatintime.paths import order_within_ship
from afloatintime.rounds import shortest
from afloatintime.yards import MOST_BACK, weights_of


def leads_of(yard, top, bottom):
    """For each work, in the sequence in which a ship's latest days can be reckoned: where NEEDS lead from it.

    That is a tuple (place, rows), a row being (place, back, weight) of the work behind; a place is that of the work
    among the WORKS, and a weight is taken times bottom, less top for each ship that the NEED leads back.
    """
    places = {name: place for place, name in enumerate(yard.names)}
    weights = weights_of(yard)
    leads = []
    for name in reversed(order_within_ship(yard.names, yard.needs)):
        needs = [need for need in yard.needs if need[0] == name]
        rows = [(places[need[1]], need[2], weights[need] * bottom - need[2] * top) for need in needs]
        leads.append((places[name], rows))
    return leads


def bring_down(leads, ahead):
    """Bring the latest days of a ship, the first of those ahead, down to what NEEDS want; tell whether any came down.

    The days of ahead are those of this ship, of the next one and so on; None where nothing is to be kept.
    """
    days = ahead[0]
    lower = False
    for place, rows in leads:
        for behind, back, weight in rows:
            day = ahead[back][behind]
            if day is not None and (days[place] is None or day - weight < days[place]):
                days[place] = day - weight
                lower = True
    return lower


def latest_rows(yard, ends, ship, last):
    """The latest days of all works of the ships from ship to last; None where no CHAIN leads to any end.

    The ends are days by (ship, NAME), of these ships.
    """
    leads = leads_of(yard, 0, 1)
    rows = [[ends.get((own, name)) for name in yard.names] for own in range(ship, last + 1)]
    rows.extend([[None for _ in yard.names] for _ in range(MOST_BACK)])
    for at in reversed(range(last + 1 - ship)):
        bring_down(leads, rows[at : at + MOST_BACK + 1])
    return rows[: last + 1 - ship]


def place_in_turn(told, ship):
    """The ship that stands for this one in the lines of a TABLE."""
    first, turn, _ = told
    return ship if ship < first else first + (ship - first) % turn


def settle(yard, told, pace, rows):
    """Bring the days of the rows, one for each ship of a TABLE, down to what NEEDS want.

    The days are taken times the pace's bottom, less its top for each ship: so those of a round come again the same.
    """
    first, turn, _ = told
    leads = leads_of(yard, pace[0], pace[1])
    ahead = []
    for ship in range(first + turn):
        ahead.append([rows[place_in_turn(told, ship + back)] for back in range(MOST_BACK + 1)])
    # The last ships of a round look ahead to its first ones: so it is gone through until nothing comes down.
    lower = True
    while lower:
        lower = False
        for ship in reversed(range(first, first + turn)):
            if bring_down(leads, ahead[ship]):
                lower = True
    for ship in reversed(range(first)):
        bring_down(leads, ahead[ship])


def latest_days(yard, told, goal):
    """The latest days with which goal begins no later than its TABLE tells, of any ship.

    They are told by the NAMES of the works that lead to goal, as numbers that come round.
    """
    first, turn, lines = told
    own = yard.names.index(goal)
    pace = slowest_ring(yard, goal)[1]
    top, bottom = pace
    rows = [[None for _ in yard.names] for _ in lines]
    for ship, days in enumerate(lines):
        rows[ship][own] = days[own] * bottom - ship * top
    settle(yard, told, pace, rows)
    found = {}
    for place, name in enumerate(yard.names):
        if rows[first][place] is not None:
            numbers = [(row[place] + ship * top) // bottom for ship, row in enumerate(rows)]
            found[name] = shortest(numbers, turn, turn * top // bottom)
    return found
