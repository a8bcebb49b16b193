"""What the document says of docks, quickening, two yards and Logs, gone through plainly, with no thought of speed.

All of it takes WORKS and NEEDS as they stand, nothing of the package.
"""

from fractions import Fraction
from itertools import product

from tests import plain, plain_far


def all_more(needs, docks, total):
    """All MORE of this total, ascending."""
    spans = [range(10 - max(needs[number][2] for number in numbers)) for _, numbers in docks]
    return [more for more in product(*spans) if sum(more) == total]


def backs_with(needs, docks, more):
    """The back of each NEED with MORE, in sequence."""
    backs = [need[2] for need in needs]
    for (_, numbers), many in zip(docks, more):
        for number in numbers:
            backs[number] += many
    return backs


def with_more(needs, docks, more):
    rows = zip(needs, backs_with(needs, docks, more))
    return tuple(sorted({(need[0], need[1], back, need[3]) for need, back in rows}))


def paces_with(works, needs, docks, name, total):
    """{MORE: pace} for all MORE of this total."""
    found = {}
    listed = [[needs.index(need) for need in ring] for ring in plain.rings_to(needs, name)]
    for more in all_more(needs, docks, total):
        backs = backs_with(needs, docks, more)
        ratios = [
            Fraction(sum(plain.weight(works, needs[at]) for at in ring), sum(backs[at] for at in ring))
            for ring in listed
        ]
        found[more] = max(ratios, default=Fraction(0))
    return found


def fewest(works, needs, docks, name, pace, most):
    """All MORE of the least total that do; () if none of a total up to most does."""
    for total in range(most + 1):
        rows = paces_with(works, needs, docks, name, total)
        found = tuple(more for more in rows if rows[more] <= Fraction(*pace))
        if found:
            return found
    return ()


def is_slow_loop(works, needs, docks, name, pace, more, value):
    """Whether any value is a LOOP that leads to this work, and is too slow with MORE."""
    chain = plain_far.chain_needs(needs, value)
    if not chain or chain[0][0] != chain[-1][1] or chain[0][0] not in plain.leading(needs, name):
        return False
    backs = backs_with(needs, docks, more)
    return sum(plain.weight(works, need) for need in chain) > Fraction(*pace) * sum(backs[at] for at in value)


def is_tree(works, needs, docks, name, pace, most, value, more=None):
    """Whether any value is a TREE for MORE, at first none of any DOCK."""
    more = tuple(0 for _ in docks) if more is None else more
    if type(value) is not tuple or len(value) != 2 or type(value[1]) is not tuple:
        return False
    if not is_slow_loop(works, needs, docks, name, pace, more, value[0]):
        return False
    wanted = []
    for at, (_, numbers) in enumerate(docks):
        wider = more[:at] + (more[at] + 1,) + more[at + 1 :]
        if sum(more) < most and set(numbers) & set(value[0]) and max(backs_with(needs, docks, wider)) <= 9:
            wanted.append((at, wider))
    if len(value[1]) != len(wanted):
        return False
    for branch, (at, wider) in zip(value[1], wanted):
        if type(branch) is not tuple or len(branch) != 2 or type(branch[0]) is not int or branch[0] != at:
            return False
        if not is_tree(works, needs, docks, name, pace, most, branch[1], wider):
            return False
    return True


def most_bought(works, prices):
    return {name: dict(works)[name] - least for name, _, least in prices}


def all_bought(works, prices):
    """All that can be BOUGHT."""
    most = most_bought(works, prices)
    for lot in product(*[range(most[name] + 1) for name, _, _ in prices]):
        yield tuple((row[0], days) for row, days in zip(prices, lot) if days)


def cost(prices, bought):
    return sum(days * price for name, days in bought for own, price, _ in prices if own == name)


def keeps(works, listed, bought, pace):
    """Whether with this BOUGHT none of these rings is above the pace."""
    less = dict(bought)
    for ring in listed:
        days = sum(plain.weight(works, need) - less.get(need[0], 0) for need in ring)
        if days > pace * sum(need[2] for need in ring):
            return False
    return True


def cheapest(works, needs, prices, name, pace):
    """All BOUGHT of the least cost that do; () if none does."""
    listed = plain.rings_to(needs, name)
    does = [bought for bought in all_bought(works, prices) if keeps(works, listed, bought, pace)]
    least = min([cost(prices, bought) for bought in does], default=None)
    return tuple(bought for bought in does if cost(prices, bought) == least)


def is_flow(needs, name, value):
    """Whether any value is a FLOW."""
    names = plain.leading(needs, name)
    if type(value) is not tuple:
        return False
    for row in value:
        if type(row) is not tuple or len(row) != 2 or type(row[1]) is not int or row[1] < 1:
            return False
        if not any(plain.alike(row[0], need) for need in needs) or not {row[0][0], row[0][1]} <= set(names):
            return False
    told = [need for need, _ in value]
    if told != sorted(set(told)):
        return False
    return all(stream(value, own, 0) == stream(value, own, 1) for own in names)


def stream(flow, name, side):
    return sum(amount for need, amount in flow if need[side] == name)


def worth(works, prices, pace, flow):
    """The worth of a FLOW."""
    number = sum(amount * (plain.weight(works, need) - pace * need[2]) for need, amount in flow)
    for name, price, least in prices:
        above = stream(flow, name, 1) - price
        if above > 0:
            number -= above * (dict(works)[name] - least)
    return number


def is_bar(works, needs, prices, name, pace, value):
    """Whether any value is a ring that is too slow whatever is bought."""
    if type(value) is not tuple or not value:
        return False
    if not all(any(plain.alike(need, own) for own in needs) for need in value):
        return False
    if any(one[1] != other[0] for one, other in zip(value, value[1:] + value[:1])):
        return False
    if value[0][0] not in plain.leading(needs, name):
        return False
    most = most_bought(works, prices)
    days = sum(plain.weight(works, need) - most.get(need[0], 0) for need in value)
    return days > pace * sum(need[2] for need in value)


def first_apart(one, other, names, many):
    """(ship, NAME) where the days of so many ships are first unlike; a yard is told as (WORKS, NEEDS)."""
    rows = [plain_far.days(works, needs, (), (), many) for works, needs in (one, other)]
    places = [[name for name, _ in works] for works, _ in (one, other)]
    for ship in range(many):
        for name in names:
            if rows[0][ship][places[0].index(name)] != rows[1][ship][places[1].index(name)]:
                return (ship, name)
    return None


def idle(works, needs, many):
    """The numbers of the NEEDS without each of which the days of so many ships are the same."""
    names = [name for name, _ in works]
    found = []
    for at in range(len(needs)):
        fewer = needs[:at] + needs[at + 1 :]
        if first_apart((works, needs), (works, fewer), names, many) is None:
            found.append(at)
    return tuple(found)


def needless(works, needs):
    """The numbers of the NEEDS beside which another CHAIN says as much."""
    found = []
    for at, need in enumerate(needs):
        for end, back, numbers in plain_far.chains(needs, need[0], need[2]):
            told = sum(plain.weight(works, needs[number]) for number in numbers)
            other = numbers not in ((), (at,))
            if other and (end, back) == (need[1], need[2]) and told >= plain.weight(works, need):
                found.append(at)
                break
    return tuple(found)


def alike_always(one, other):
    """Whether one late work of the first ship, each by itself, moves the same in both; yards as (WORKS, NEEDS).

    A day far on tells by it how far each work leads to each ship that a NEED leads back: by this all is told.
    """
    names = [name for name, _ in one[0]]
    if names != [name for name, _ in other[0]]:
        return False
    for name in names:
        late = ((0, name, 10**6),)
        if plain_far.days(*one, late, (), 10) != plain_far.days(*other, late, (), 10):
            return False
    return True


class PlainLog:
    """What a Log tells, all from nothing each time; its steps are held as texts."""

    def __init__(self, works, needs):
        self.works, self.needs = works, needs
        self.begins, self.lasts, self.used = {}, {}, set()

    def spots(self):
        return sorted(set(self.begins) | set(self.lasts))

    def told(self):
        return tuple((*spot, self.begins.get(spot), self.lasts.get(spot)) for spot in self.spots())

    def last(self, ship, name):
        return self.lasts.get((ship, name), dict(self.works)[name])

    def all_days(self, ship):
        """(days, least days), both by (ship, NAME), of the ships 0 to ship."""
        days, least = {}, {}
        for own in range(ship + 1):
            waiting = [name for name, _ in self.works]
            while waiting:
                for name in waiting:
                    needs = [need for need in self.needs if need[1] == name and need[2] <= own]
                    befores = [(own - need[2], need[0]) for need in needs]
                    if all(spot in days for spot in befores):
                        begins = [
                            days[spot] + self.last(*spot) + need[3] for spot, need in zip(befores, needs)
                        ]
                        least[own, name] = max([0] + begins)
                        days[own, name] = self.begins.get((own, name), least[own, name])
                waiting = [name for name in waiting if (own, name) not in days]
        return days, least

    def use(self, ship):
        """The days and the least days; the steps of the ships 0 to ship are used."""
        days, least = self.all_days(ship)
        far = max([need[2] for need in self.needs], default=0)
        for own in range(ship + 1):
            told = [row[1:] for row in self.told() if row[0] == own]
            ahead = []
            for late in range(max(0, own - far), own):
                begins = [days[late, name] for name, _ in self.works]
                ahead.append((begins, [(spot[1], self.lasts[spot]) for spot in sorted(self.lasts) if spot[0] == late]))
            self.used.add(repr((told, ahead)))
        return days, least

    def day(self, name, ship):
        return self.use(ship)[0][ship, name]

    def done(self, name, ship):
        return self.day(name, ship) + self.last(ship, name)

    def clashes(self):
        _, least = self.use(max([ship for ship, _ in self.spots()], default=-1))
        return tuple((*spot, least[spot]) for spot in sorted(self.begins) if self.begins[spot] < least[spot])
