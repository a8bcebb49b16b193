"""The earliest days of ships, reckoned one ship behind the other."""

from afloatintime.lateness import by_spot
from afloatintime.paths import order_within_ship
from afloatintime.yards import weights_of


def links_of(yard):
    """For each work, in the sequence in which a ship's days can be reckoned: what it waits for.

    That is a tuple (place, NAME, rows), a row being (place, NAME, back, weight) of the work before;
    a place is that of the work among the WORKS.
    """
    places = {name: place for place, name in enumerate(yard.names)}
    weights = weights_of(yard)
    links = []
    for name in order_within_ship(yard.names, yard.needs):
        rows = [(places[need[0]], need[0], need[2], weights[need]) for need in yard.needs if need[1] == name]
        links.append((places[name], name, rows))
    return links


def days_of_ship(links, starts, longer, past):
    """The earliest days of the ship behind those of past, whose days these are."""
    ship = len(past)
    days = [0 for _ in links]
    for place, name, rows in links:
        day = starts.get((ship, name), 0)
        for before, before_name, back, weight in rows:
            if back > ship:
                continue
            begin = past[ship - back][before] if back else days[before]
            day = max(day, begin + weight + longer.get((ship - back, before_name), 0))
        days[place] = day
    return tuple(days)


def first_days(yard, delays, changes, many):
    """The tuple of the earliest days of the first so many ships."""
    links = links_of(yard)
    starts = by_spot(delays)
    longer = by_spot(changes)
    past = []
    for _ in range(many):
        past.append(days_of_ship(links, starts, longer, past))
    return tuple(past)
