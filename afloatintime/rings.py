"""Rings of NEEDS, and the paces that they tell."""

from math import gcd, lcm

from afloatintime.climbs import climb, days_and_back, links_to, slowest_ring
from afloatintime.paths import leading_to
from afloatintime.values import fraction, is_fraction, is_less, is_tuple_of
from afloatintime.yards import check_name, check_yard, is_need_of, weights_of


def pace(yard, name):
    """The greatest FRACTION days / back of all rings that lead to this work."""
    check_yard(yard)
    check_name(yard, name)
    return slowest_ring(yard, name)[1]


def paces(yard):
    """(NAME, pace) for all works."""
    check_yard(yard)
    return tuple([(name, pace(yard, name)) for name in yard.names])


def pace_of_all(yard):
    """The greatest of all paces."""
    greatest = (0, 1)
    for _, found in paces(yard):
        if is_less(greatest, found):
            greatest = found
    return greatest


def ring(yard, name):
    """A ring that leads to this work and has its pace; None if no ring leads to it."""
    check_yard(yard)
    check_name(yard, name)
    return slowest_ring(yard, name)[0]


def is_ring(yard, value):
    """Whether any value is a ring of NEEDS of this YARD, no two of them with the same before."""
    if not isinstance(value, tuple) or not value:
        return False
    if not all([is_need_of(yard, need) for need in value]):
        return False
    met = {}
    last = value[-1][1]
    for before, behind, _, _ in value:
        if before != last or before in met:
            return False
        met[before] = True
        last = behind
    return True


def shows_ring(yard, name, value):
    """Whether any value is such a ring, or None where there is none."""
    check_yard(yard)
    check_name(yard, name)
    slowest, wanted = slowest_ring(yard, name)
    if value is None:
        return slowest is None
    if not is_ring(yard, value) or value[0][0] not in leading_to(yard.needs, name):
        return False
    days, back = days_and_back(weights_of(yard), value)
    return fraction(days, back) == wanted


def heights(yard, name):
    """FRACTIONS for the works that lead to this one, which show that no ring has more than its pace."""
    check_yard(yard)
    check_name(yard, name)
    names = leading_to(yard.needs, name)
    top, bottom = slowest_ring(yard, name)[1]
    found = climb(names, links_to(yard, name), top, bottom)[0]
    return tuple([(own, fraction(found[own], bottom)) for own in names])


def is_row_of_heights(value, name):
    """Whether any value is (NAME, FRACTION) with this NAME."""
    return is_tuple_of(value, 2) and value[0] == name and is_fraction(value[1])


def keeps_height(before, behind, step):
    """Whether behind is at least before and step together, all FRACTIONS, step not brought down."""
    rise = behind[0] * before[1] - before[0] * behind[1]
    return rise * step[1] >= step[0] * before[1] * behind[1]


def shows_heights(yard, name, value):
    """Whether any value is such a tuple."""
    top, bottom = pace(yard, name)
    names = leading_to(yard.needs, name)
    if not is_tuple_of(value, len(names)):
        return False
    if not all([is_row_of_heights(row, own) for row, own in zip(value, names)]):
        return False
    told = {own: height for own, height in value}
    steps = [(need, (weight * bottom - need[2] * top, bottom)) for need, weight in links_to(yard, name)]
    return all([keeps_height(told[need[0]], told[need[1]], step) for need, step in steps])


def tight_needs(yard, name):
    """All NEEDS in rings that lead to this work and have its pace, in sequence."""
    top, bottom = slowest_ring(yard, name)[1]
    links = links_to(yard, name)
    found = climb(leading_to(yard.needs, name), links, top, bottom)[0]
    # Going round such a ring the heights come back to themselves: so each NEED of it is just kept.
    kept = []
    for need, weight in links:
        if found[need[1]] - found[need[0]] == weight * bottom - need[2] * top:
            kept.append(need)
    return tuple([need for need in kept if need[1] in leading_to(kept, need[0])])


def tight(yard, name):
    """All NEEDS that are in some ring that leads to this work and has its pace."""
    check_yard(yard)
    check_name(yard, name)
    return tight_needs(yard, name)


def common_back(needs, name):
    """The greatest integer that divides the back of each ring of these NEEDS in the lot of name."""
    ships = {name: 0}
    ahead = [name]
    common = 0
    while ahead:
        here = ahead.pop()
        for before, behind, back, _ in needs:
            if before != here:
                continue
            if behind not in ships:
                ships[behind] = ships[here] + back
                ahead.append(behind)
            # Two ways to one work differ by what rings lead back.
            common = gcd(common, ships[here] + back - ships[behind])
    return common


def beat(yard, name):
    """The ships after which the rings that bind this work have all come round."""
    check_yard(yard)
    check_name(yard, name)
    needs = tight_needs(yard, name)
    beats = 1
    for before, _, _, _ in needs:
        beats = lcm(beats, common_back(needs, before))
    return beats
