"""Streams that go round: of all that can be, those of the greatest worth.

An arc is a tuple (start, end, worth, most): what goes through it is worth so much a piece, and at most so many go
through it, any number if most is None.
"""

from afloatintime.climbs import climb


def links_left(arcs, streams):
    """What can still be changed: a link for each arc through which more can go, and back for each with a stream."""
    links = []
    for at, (start, end, worth, most) in enumerate(arcs):
        if most is None or streams[at] < most:
            links.append(((start, end, 0, (at, 1)), worth))
        if streams[at] > 0:
            links.append(((end, start, 0, (at, -1)), -worth))
    return links


def most_round(arcs, streams, ring):
    """How much more can go round this ring of links."""
    found = []
    for _, _, _, (at, way) in ring:
        if way < 0:
            found.append(streams[at])
        elif arcs[at][3] is not None:
            found.append(arcs[at][3] - streams[at])
    return min(found)


def best_streams(places, arcs):
    """(streams, heights): the streams through the arcs, in sequence, that are worth the most, and heights of places.

    No ring of arcs that take any number may be worth anything. The heights show that nothing is worth more: each
    arc through which more could go leads up at least by its worth, and each through which something goes at most.
    """
    streams = [0 for _ in arcs]
    heights, ring = climb(places, links_left(arcs, streams), 0, 1)
    while ring is not None:
        more = most_round(arcs, streams, ring)
        for _, _, _, (at, way) in ring:
            streams[at] += way * more
        heights, ring = climb(places, links_left(arcs, streams), 0, 1)
    return (streams, heights)
