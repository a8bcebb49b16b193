"""What the document says of tables, late parts, room and wishes, gone through plainly, with no thought of speed.

All of it takes WORKS and NEEDS as they stand, nothing of the package.
"""

from fractions import Fraction
from math import ceil, floor

from tests import plain


def days(works, needs, delays, changes, many):
    """The earliest days of so many ships, a tuple for each: what each work waits for is asked one by one."""
    starts = {(ship, name): day for ship, name, day in delays}
    longer = {(ship, name): more for ship, name, more in changes}
    begins = {}

    def begin(ship, name):
        if (ship, name) not in begins:
            day = starts.get((ship, name), 0)
            for need in needs:
                spot = (ship - need[2], need[0])
                if need[1] == name and spot[0] >= 0:
                    day = max(day, begin(*spot) + plain.weight(works, need) + longer.get(spot, 0))
            begins[ship, name] = day
        return begins[ship, name]

    return [tuple(begin(ship, name) for name, _ in works) for ship in range(many)]


def steps(works, needs):
    """The paces of all works, as Fractions of Python's."""
    return [plain.pace(works, needs, name) for name, _ in works]


def comes_again(rows, paces, first, turn):
    """Whether the days of all ships from first on come again one turn later, as far as these rows go."""
    for early, late in zip(rows[first:], rows[first + turn :]):
        if any(day + turn * pace != later for day, later, pace in zip(early, late, paces)):
            return False
    return True


def least_round(rows, paces, most):
    """(first, round), the least round and then the least first; None if these are above most together."""
    for turn in range(1, most + 1):
        first = most - turn
        if comes_again(rows, paces, first, turn):
            while first and comes_again(rows[first - 1 : first + turn], paces, 0, turn):
                first -= 1
            return (first, turn)
    return None


def told_of(numbers, most, more=None):
    """(firsts, round, more) in their shortest form, told by many numbers; None if they do not come round so soon."""
    for turn in range(1, most + 1):
        rise = numbers[-1] - numbers[-1 - turn] if more is None else more
        first = len(numbers) - turn
        while first and numbers[first - 1] + rise == numbers[first - 1 + turn]:
            first -= 1
        if first + turn <= most:
            return (tuple(numbers[:first]), tuple(numbers[first : first + turn]), rise)
    return None


def number_at(told, at):
    """The number at this place of (firsts, round, more), the round gone over one time after the other."""
    firsts, again, more = told
    numbers = list(firsts) + list(again)
    while len(numbers) <= at:
        numbers.append(numbers[-len(again)] + more)
    return numbers[at]


def chain_needs(needs, value):
    """The NEEDS of a CHAIN; None for all else."""
    if type(value) is not tuple or any(type(number) is not int for number in value):
        return None
    if any(not 0 <= number < len(needs) for number in value):
        return None
    found = [needs[number] for number in value]
    return found if all(one[1] == other[0] for one, other in zip(found, found[1:])) else None


def length(works, chain):
    """The days of these NEEDS, and their back."""
    return (sum(plain.weight(works, need) for need in chain), sum(need[2] for need in chain))


def leads(chain, before, behind):
    """Whether these NEEDS lead from before to behind; None stands for any work."""
    if not chain:
        return None in (before, behind) or before == behind
    return before in (None, chain[0][0]) and behind in (None, chain[-1][1])


def chains(needs, name, most):
    """All CHAINS from this work with back at most most: (NAME, back, numbers)."""
    found = [(name, 0, ())]
    for own, back, numbers in found:
        for number, need in enumerate(needs):
            if need[0] == own and back + need[2] <= most:
                found.append((need[1], back + need[2], numbers + (number,)))
    return found


def simple_chains(needs, name, goal):
    """The numbers of all CHAINS from this work to goal that go to no work twice."""
    found = []
    ahead = [(name, (name,), ())]
    for own, met, numbers in ahead:
        if own == goal:
            found.append(numbers)
        for number, need in enumerate(needs):
            if need[0] == own and need[1] not in met:
                ahead.append((need[1], met + (need[1],), numbers + (number,)))
    return found


def moves(works, needs, early, delays, changes, names):
    """Whether this moves a begin of one of these works, of the ships of which early tells the days."""
    late = days(works, needs, delays, changes, len(early))
    places = [place for place, (name, _) in enumerate(works) if name in names]
    return any(one[place] != other[place] for one, other in zip(early, late) for place in places)


def is_binding(works, needs, early, spot, goal, room, value):
    """Whether any value is a CHAIN that binds this SPOT; n is one of the ships of which early tells the days."""
    if type(value) is not tuple or len(value) != 2 or type(value[0]) is not int:
        return False
    chain = chain_needs(needs, value[1])
    if chain is None or not leads(chain, spot[1], goal):
        return False
    told, back = length(works, chain)
    if spot[0] + back != value[0]:
        return False
    names = [name for name, _ in works]
    return early[spot[0]][names.index(spot[1])] + room + told == early[value[0]][names.index(goal)]


def latest(works, needs, wishes, name, ship):
    """The latest day by all CHAINS to a wished work; None if there are none."""
    found = []
    for own, wished, day in wishes:
        for end, back, numbers in chains(needs, name, own - ship):
            if end == wished and ship + back == own:
                found.append(day - length(works, [needs[number] for number in numbers])[0])
    return min(found, default=None)


def is_too_late(works, needs, wishes, value):
    """Whether any value is (number, CHAIN) that shows that a WISH cannot be kept."""
    if type(value) is not tuple or len(value) != 2 or type(value[0]) is not int:
        return False
    if not 0 <= value[0] < len(wishes):
        return False
    ship, name, day = wishes[value[0]]
    chain = chain_needs(needs, value[1])
    if chain is None or not leads(chain, None, name):
        return False
    told, back = length(works, chain)
    return back <= ship and told > day


def is_slow_enough(works, needs, rhythm):
    return Fraction(*rhythm[2]) >= plain.pace(works, needs, rhythm[0])


def height(works, needs, rhythm, name):
    """The greatest days less pace times back of the CHAINS to the RHYTHM's work; going round brings no more."""
    found = []
    for numbers in simple_chains(needs, name, rhythm[0]):
        told, back = length(works, [needs[number] for number in numbers])
        found.append(told - back * Fraction(*rhythm[2]))
    return max(found, default=None)


def first_day(works, needs, name, pace, many=150):
    """The least day with which a RHYTHM that is slow enough is kept by the first so many ships."""
    place = [own for own, _ in works].index(name)
    rows = days(works, needs, (), (), many)
    return max(ceil(row[place] - ship * Fraction(*pace)) for ship, row in enumerate(rows))


def latest_in(works, needs, rhythm, name, ship):
    """The greatest day from which none of the CHAINS leads beyond the RHYTHM; None if there are none."""
    goal, day, pace = rhythm
    found = []
    for numbers in simple_chains(needs, name, goal):
        told, back = length(works, [needs[number] for number in numbers])
        found.append(floor(day + (ship + back) * Fraction(*pace) - told))
    return min(found, default=None)


def is_never(works, needs, rhythm, value):
    """Whether any value is a paper that the RHYTHM cannot be kept."""
    if type(value) is not tuple or len(value) != 3 or type(value[0]) is not str:
        return False
    name, day, pace = rhythm[0], rhythm[1], Fraction(*rhythm[2])
    if value[0] == "ship":
        chain = chain_needs(needs, value[2])
        if chain is None or not leads(chain, None, name) or type(value[1]) is not int or value[1] < 0:
            return False
        told, back = length(works, chain)
        return back <= value[1] and told > day + value[1] * pace
    chain = chain_needs(needs, value[1])
    if value[0] != "ring" or chain is None or not leads(chain, None, name) or type(value[2]) is not int:
        return False
    if not 1 <= value[2] <= len(chain) or chain[0][0] != chain[value[2] - 1][1]:
        return False
    told, back = length(works, chain[: value[2]])
    return told > back * pace
