"""What the document says of yards, days and rings, gone through plainly, with no thought of speed.

All of it takes WORKS and NEEDS as they stand, nothing of the package.
"""

import re
from fractions import Fraction
from math import gcd, lcm

WORK_LINE = re.compile(r"work ([a-z][a-z0-9]{0,7}) (0|[1-9][0-9]?)")
NEED_LINE = re.compile(r"need ([a-z][a-z0-9]{0,7}) ([a-z][a-z0-9]{0,7}) ([0-9]) (0|-?[1-9][0-9]?)")


def alike(one, other):
    """Whether two values are equal, True not being 1, nor a list a tuple."""
    return repr(one) == repr(other)


def weight(works, need):
    return dict(works)[need[0]] + need[3]


def leading(needs, name):
    """All NAMES from which NEEDS lead to name: one more NEED at a time, until none adds any."""
    found = {name}
    while True:
        wider = found | {before for before, behind, _, _ in needs if behind in found}
        if wider == found:
            return tuple(sorted(found))
        found = wider


def rings(needs):
    """All rings no two NEEDS of which have the same before, begun at each of their works."""
    found = []
    paths = [(need,) for need in needs]
    while paths:
        path = paths.pop()
        if path[-1][1] == path[0][0]:
            found.append(path)
            continue
        met = {need[0] for need in path}
        paths.extend(path + (need,) for need in needs if need[0] == path[-1][1] and need[0] not in met)
    return found


def closed_walks(needs, most):
    """All rings of at most so many NEEDS, whatever they go through more than once."""
    found = []
    paths = [(need,) for need in needs]
    for _ in range(most):
        found.extend(path for path in paths if path[-1][1] == path[0][0])
        paths = [path + (need,) for path in paths for need in needs if need[0] == path[-1][1]]
    return found


def waits_for_itself(needs):
    return any(all(need[2] == 0 for need in ring) for ring in rings(needs))


def ratio(works, ring):
    return Fraction(sum(weight(works, need) for need in ring), sum(need[2] for need in ring))


def rings_to(needs, name):
    names = leading(needs, name)
    return [ring for ring in rings(needs) if all(need[0] in names for need in ring)]


def pace(works, needs, name):
    """The pace, as a Fraction of Python's."""
    return max([ratio(works, ring) for ring in rings_to(needs, name)], default=Fraction(0))


def slowest_rings(works, needs, name):
    found = rings_to(needs, name)
    most = pace(works, needs, name)
    return [ring for ring in found if ratio(works, ring) == most]


def tight(works, needs, name):
    return tuple(sorted({need for ring in slowest_rings(works, needs, name) for need in ring}))


def beat(works, needs, name):
    kept = tight(works, needs, name)
    backs = {}
    for ring in rings(kept):
        lot = leading(kept, ring[0][0])
        backs[lot] = gcd(backs.get(lot, 0), sum(need[2] for need in ring))
    return lcm(*backs.values())


def is_fraction(value):
    if type(value) is not tuple or len(value) != 2 or type(value[0]) is not int or type(value[1]) is not int:
        return False
    return value[1] >= 1 and gcd(*value) == 1


def are_heights(works, needs, name, value):
    names = leading(needs, name)
    if type(value) is not tuple or len(value) != len(names):
        return False
    for row, own in zip(value, names):
        if type(row) is not tuple or len(row) != 2 or not alike(row[0], own) or not is_fraction(row[1]):
            return False
    told = {own: Fraction(*row) for own, row in value}
    most = pace(works, needs, name)
    return all(
        told[need[1]] >= told[need[0]] + weight(works, need) - need[2] * most
        for need in needs
        if need[0] in names and need[1] in names
    )


def arcs(works, needs, changes, many):
    """(spot, spot, weight) for each NEED between works of the first so many ships."""
    longer = {(ship, name): days for ship, name, days in changes}
    found = []
    for ship in range(many):
        for need in needs:
            spot = (ship - need[2], need[0])
            if spot[0] >= 0:
                found.append((spot, (ship, need[1]), weight(works, need) + longer.get(spot, 0)))
    return found


def days(works, needs, delays, changes, many):
    """The earliest days of the first so many ships: what begins too early is moved until nothing does."""
    begins = {(ship, name): 0 for ship in range(many) for name, _ in works}
    for ship, name, day in delays:
        if ship < many:
            begins[ship, name] = day
    lasts = arcs(works, needs, changes, many)
    moved = True
    while moved:
        moved = False
        for before, behind, number in lasts:
            if begins[behind] < begins[before] + number:
                begins[behind] = begins[before] + number
                moved = True
    return tuple(tuple(begins[ship, name] for name, _ in works) for ship in range(many))


def first_broken(works, needs, delays, changes, part):
    names = [name for name, _ in works]
    begins = {(ship, name): row[names.index(name)] for ship, row in enumerate(part) for name in names}
    longer = {(ship, name): more for ship, name, more in changes}
    faults = []
    for ship in range(len(part)):
        for own, name, day in delays:
            if own == ship and begins[ship, name] < day:
                faults.append(("delay", ship, name))
        for need in needs:
            spot = (ship - need[2], need[0])
            if spot in begins and begins[ship, need[1]] < begins[spot] + weight(works, need) + longer.get(spot, 0):
                faults.append(("need", ship, need))
    return faults[0] if faults else None


def trail_end(works, needs, delays, changes, value):
    """(ship, NAME, worth) of a TRAIL; None for all else."""
    if type(value) is not tuple or len(value) != 3:
        return None
    ship, name, steps = value
    if type(ship) is not int or ship < 0 or type(name) is not str or name not in dict(works):
        return None
    if type(steps) is not tuple:
        return None
    number = sum(day for own, work, day in delays if (own, work) == (ship, name))
    for step in steps:
        if not any(alike(step, need) for need in needs) or step[0] != name:
            return None
        number += weight(works, step) + sum(more for own, work, more in changes if (own, work) == (ship, name))
        ship, name = ship + step[2], step[1]
    return (ship, name, number)


def line_that_fails(text):
    """The number of the first line of a text with which no text of a YARD begins; None if it is one."""
    works = []
    needs = []
    for number, line in enumerate(text.split("\n"), start=1):
        work = WORK_LINE.fullmatch(line)
        need = NEED_LINE.fullmatch(line)
        if work and not needs and len(works) < 12 and all(work[1] > name for name, _ in works):
            works.append((work[1], int(work[2])))
            continue
        if need is None or len(needs) == 40:
            return number
        row = (need[1], need[2], int(need[3]), int(need[4]))
        if not {row[0], row[1]} <= set(dict(works)) or weight(works, row) < 0:
            return number
        if (needs and needs[-1] >= row) or waits_for_itself(needs + [row]):
            return number
        needs.append(row)
    return None
