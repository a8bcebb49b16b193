"""Yards, DELAYS and CHANGES of many kinds for the tests, and values near to a value."""

import random

from afloatintime.errors import YardError
from afloatintime.yards import Yard
from tests import plain

NAMES = ("a", "b0", "crane", "dock", "e", "float123")


def deep(levels):
    value = 0
    for level in range(levels):
        value = (value,) if level % 2 else [value]
    return value


SMALL = Yard((("keel", 1),), ())

# Values of every kind, none of which is anything that a parameter of these sections wants but where
# a test says so.
ANY = (
    None,
    True,
    False,
    0,
    1,
    -1,
    7,
    "",
    "zz",
    "7",
    (),
    (0,),
    ((),),
    (None, None),
    (True, "a", ()),
    [],
    [0],
    ["a"],
    {},
    {"a": 1},
    SMALL,
    (SMALL,),
    (SMALL, SMALL, SMALL, SMALL),
    YardError("a"),
    deep(60),
)


def needs_for(rng, works, many):
    """NEEDS at random, none of which makes a work wait for itself."""
    lasts = dict(works)
    found = []
    for _ in range(many):
        before, behind = rng.choice(works)[0], rng.choice(works)[0]
        wait = rng.randint(-lasts[before], 4) if rng.random() < 0.6 else -lasts[before]
        need = (before, behind, rng.choice((0, 0, 1, 1, 2, 3)), wait)
        if need not in found and not plain.waits_for_itself(found + [need]):
            found.append(need)
    return tuple(sorted(found))


def random_yard(rng, most_works=5, most_needs=9):
    names = sorted(rng.sample(NAMES, rng.randint(1, most_works)))
    works = tuple((name, rng.choice((0, 1, 2, 3, 5, 9))) for name in names)
    return Yard(works, needs_for(rng, works, rng.randint(0, most_needs)))


def random_yards(seed, many, **limits):
    rng = random.Random(seed)
    return [random_yard(rng, **limits) for _ in range(many)]


def random_rows(rng, yard, ships, least, most):
    """Something like DELAYS or CHANGES of the first so many ships."""
    spots = [(ship, name) for ship in range(ships) for name in yard.names]
    chosen = sorted(rng.sample(spots, rng.randint(0, min(4, len(spots)))))
    return tuple((ship, name, rng.randint(least, most)) for ship, name in chosen)


def near(value):
    """Values near to this one: one part otherwise, left out, more, begun elsewhere, of another kind."""
    yield from (None, True, SMALL, (value,), [value])
    if isinstance(value, int):
        yield from (value - 1, value + 1, -value, str(value), bool(value))
    if isinstance(value, str):
        yield from (value + "x", value[:-1], value.upper(), "a", "dock", 0)
    if isinstance(value, tuple):
        yield from near_tuples(value)


def near_tuples(value):
    yield list(value)
    yield dict(enumerate(value))
    yield ()
    yield value[::-1]
    yield value + value
    for at, part in enumerate(value):
        yield value[at:] + value[:at]
        yield value[:at] + value[at + 1 :]
        yield value[: at + 1] + value[at:]
        for other in near(part):
            yield value[:at] + (other,) + value[at + 1 :]
