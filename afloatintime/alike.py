"""Two yards: whether they launch alike, for ever; and which NEEDS tell nothing."""

from afloatintime.errors import BadNames
from afloatintime.paths import order_within_ship
from afloatintime.reckoning import first_days
from afloatintime.tables import greatest_back, table
from afloatintime.values import is_ascending, is_one_of
from afloatintime.yards import Yard, check_yard, weights_of


def are_names(one, other, value):
    """Whether any value is an ascending tuple of NAMES of works of both YARDS, one at least."""
    if not isinstance(value, tuple) or not value:
        return False
    if not all([is_one_of(one.names, name) and is_one_of(other.names, name) for name in value]):
        return False
    return is_ascending(value)


def apart(one, other, names):
    """(ship, NAME): the first ship of which these works have other earliest days, and the least NAME; None if none."""
    check_yard(one)
    check_yard(other)
    if not are_names(one, other, names):
        raise BadNames(names)
    first, turn, _ = table(one, (), ())
    other_first, other_turn, _ = table(other, (), ())
    # Days that come round behind so many ships, and are alike for as many as both rounds together, are so for ever.
    many = max(first, other_first) + turn + other_turn
    rows = first_days(one, (), (), many)
    other_rows = first_days(other, (), (), many)
    for ship, (days, other_days) in enumerate(zip(rows, other_rows)):
        for name in names:
            if days[one.names.index(name)] != other_days[other.names.index(name)]:
                return (ship, name)
    return None


def binders_of(yard, weights, rows, ship, name):
    """The NEEDS that let this work of this ship begin no earlier than it does; None if it begins on day 0."""
    places = {own: place for place, own in enumerate(yard.names)}
    day = rows[ship][places[name]]
    if day == 0:
        return None
    needs = [need for need in yard.needs if need[1] == name and need[2] <= ship]
    return [need for need in needs if rows[ship - need[2]][places[need[0]]] + weights[need] == day]


def idle(yard):
    """The numbers of all NEEDS each of which alone could be taken out with no earliest day changed."""
    check_yard(yard)
    first, turn, _ = table(yard, (), ())
    # What waits for works of a lesser pace may still bind in the first round of all NEEDS, but not in the second one.
    rows = first_days(yard, (), (), first + greatest_back(yard) + 2 * turn)
    weights = weights_of(yard)
    wanted = {}
    for ship in range(len(rows)):
        for name in yard.names:
            binders = binders_of(yard, weights, rows, ship, name)
            if binders is not None and len(binders) == 1:
                wanted[binders[0]] = True
    return tuple([number for number, need in enumerate(yard.needs) if need not in wanted])


def weight_beside(yard, weights, order, need):
    """The greatest weight of all other CHAINS that lead where this NEED leads, of the same back; None without any."""
    start, goal, back, _ = need
    others = [own for own in yard.needs if own != need]
    best = {(start, 0): 0}
    for ships in range(back + 1):
        for name in order:
            ways = [(own[0], ships - own[2], weights[own]) for own in others if own[1] == name]
            found = [best[before, at] + weight for before, at, weight in ways if (before, at) in best]
            if found:
                best[name, ships] = max(found)
    return best.get((goal, back))


def needless_needs(yard):
    """All NEEDS that tell nothing, whatever comes late, in sequence."""
    weights = weights_of(yard)
    order = order_within_ship(yard.names, yard.needs)
    found = []
    for need in yard.needs:
        weight = weight_beside(yard, weights, order, need)
        if weight is not None and weight >= weights[need]:
            found.append(need)
    return found


def needless(yard):
    """The numbers of all NEEDS that tell nothing, whatever comes late."""
    check_yard(yard)
    return tuple([yard.needs.index(need) for need in needless_needs(yard)])


def lean(yard):
    """The YARD without all NEEDS that tell nothing, whatever comes late."""
    check_yard(yard)
    spare = needless_needs(yard)
    return Yard(yard.works, tuple([need for need in yard.needs if need not in spare]))


def links_that_tell(yard):
    """(before, behind, back, weight) for each NEED that is not needless, in sequence."""
    kept = lean(yard)
    weights = weights_of(kept)
    return [(need[0], need[1], need[2], weights[need]) for need in kept.needs]


def alike_always(one, other):
    """Whether both have works of the same NAMES, with the same earliest days, whatever comes late."""
    check_yard(one)
    check_yard(other)
    return one.names == other.names and links_that_tell(one) == links_that_tell(other)
