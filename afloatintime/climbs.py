"""Rings of NEEDS, weighed against what a pace takes off for each ship that they lead back."""

from afloatintime.paths import leading_to
from afloatintime.values import fraction
from afloatintime.yards import weights_of


def links_to(yard, name):
    """(NEED, weight) for each NEED between works that lead to name."""
    weights = weights_of(yard)
    names = leading_to(yard.needs, name)
    return [(need, weights[need]) for need in yard.needs if need[1] in names]


def climb(names, links, top, bottom):
    """Heights that the links keep at the pace top / bottom, or a ring that has more days.

    That is a pair (heights, None), heights by NAMES, and taken times bottom; or (None, ring).
    """
    heights = {name: 0 for name in names}
    came = {}
    for _ in names:
        raised = None
        for need, weight in links:
            before, behind, back, _ = need
            height = heights[before] + weight * bottom - back * top
            if height > heights[behind]:
                heights[behind] = height
                came[behind] = need
                raised = behind
        if raised is None:
            return (heights, None)
    return (None, ring_behind(came, raised))


def ring_behind(came, name):
    """The ring to which one comes from name, going back by the NEEDS by which each work was raised."""
    # As many steps as there are works: then one is on the ring, and no longer on the way to it.
    for _ in came:
        name = came[name][0]
    ring = [came[name]]
    while ring[-1][0] != name:
        ring.append(came[ring[-1][0]])
    return tuple(reversed(ring))


def days_and_back(weights, ring):
    """The days of this ring, and its back."""
    return (sum([weights[need] for need in ring]), sum([need[2] for need in ring]))


def slowest_ring(yard, name):
    """A ring of the greatest pace whose works lead to name, no NEEDS of it with the same before.

    That is a pair (ring, pace); (None, (0, 1)) if there is no such ring.
    """
    names = leading_to(yard.needs, name)
    links = links_to(yard, name)
    weights = weights_of(yard)
    # Each ring has 0 days or more, and leads back: so at first each is above this pace.
    top = -1
    bottom = 1
    slowest = None
    ring = climb(names, links, top, bottom)[1]
    while ring is not None:
        slowest = ring
        top, bottom = days_and_back(weights, ring)
        ring = climb(names, links, top, bottom)[1]
    if slowest is None:
        return (None, (0, 1))
    return (slowest, fraction(top, bottom))
