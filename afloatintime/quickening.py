"""Quickening: works done faster, for a price; the cheapest way to a wished pace."""

from afloatintime.climbs import climb, days_and_back, links_to, slowest_ring
from afloatintime.errors import BadBought, BadFlow, BadPace, BadPrices
from afloatintime.paths import leading_to
from afloatintime.streams import best_streams
from afloatintime.values import is_ascending, is_between, is_from, is_less, is_one_of, is_tuple_of
from afloatintime.yards import Yard, check_name, check_yard, is_need_of, lasts_of, weights_of

MOST_PRICE = 999
MOST_PACE = 99999


def is_price(yard, value):
    """Whether any value is (NAME, price, least) of a work of this YARD."""
    if not is_tuple_of(value, 3) or not is_one_of(yard.names, value[0]):
        return False
    name, price, least = value
    if not is_between(price, 1, MOST_PRICE) or not is_between(least, 0, lasts_of(yard)[name]):
        return False
    return all([least + need[3] >= 0 for need in yard.needs if need[0] == name])


def are_prices(yard, value):
    """Whether any value is PRICES of this YARD."""
    if not isinstance(value, tuple) or not all([is_price(yard, row) for row in value]):
        return False
    return is_ascending([name for name, _, _ in value])


def check_prices(yard, prices):
    """NoYard, BadPrices unless a YARD and PRICES of it."""
    check_yard(yard)
    if not are_prices(yard, prices):
        raise BadPrices(prices)


def check_wish(yard, prices, name, pace):
    """What cheapest raises."""
    check_prices(yard, prices)
    check_name(yard, name)
    if not is_between(pace, 0, MOST_PACE):
        raise BadPace(pace)


def most_bought(yard, prices):
    """How many days of each work with a price can be bought, by NAMES."""
    lasts = lasts_of(yard)
    return {name: lasts[name] - least for name, _, least in prices}


def is_bought(most, value):
    """Whether any value is (NAME, days) that can be bought, most being told by NAMES."""
    return is_tuple_of(value, 2) and is_one_of(most, value[0]) and is_between(value[1], 1, most[value[0]])


def are_bought(yard, prices, value):
    """Whether any value is BOUGHT."""
    most = most_bought(yard, prices)
    if not isinstance(value, tuple) or not all([is_bought(most, row) for row in value]):
        return False
    return is_ascending([name for name, _ in value])


def check_bought(yard, prices, bought):
    """NoYard, BadPrices, BadBought unless a YARD, PRICES of it, and what can be bought for them."""
    check_prices(yard, prices)
    if not are_bought(yard, prices, bought):
        raise BadBought(bought)


def shorter(yard, bought):
    """The YARD with these works so much shorter."""
    less = {name: days for name, days in bought}
    works = [(name, days - less.get(name, 0)) for name, days in yard.works]
    return Yard(tuple(works), yard.needs)


def cost_of(prices, bought):
    """The cost of what is BOUGHT."""
    by_name = {name: price for name, price, _ in prices}
    return sum([days * by_name[name] for name, days in bought])


def quickened(yard, prices, bought):
    """The YARD with these works so much shorter."""
    check_bought(yard, prices, bought)
    return shorter(yard, bought)


def cost(yard, prices, bought):
    """The cost of what is BOUGHT."""
    check_bought(yard, prices, bought)
    return cost_of(prices, bought)


def barring_ring(yard, prices, name, pace):
    """A ring with more days than pace times its back, whatever is bought; None without any."""
    least = shorter(yard, list(most_bought(yard, prices).items()))
    return climb(leading_to(yard.needs, name), links_to(least, name), pace, 1)[1]


def arcs_of(yard, prices, name, pace):
    """The arcs of streams through the works that lead to name: those of the NEEDS between them first, in sequence.

    Each work is an arc from its begin to its end. One with a price has two: up to the price a stream costs nothing,
    and beyond it as much as can be bought.
    """
    arcs = []
    for need, weight in links_to(yard, name):
        arcs.append(((need[0], "end"), (need[1], "begin"), weight - need[2] * pace, None))
    by_name = {own: price for own, price, _ in prices}
    most = most_bought(yard, prices)
    for own in leading_to(yard.needs, name):
        arcs.append(((own, "begin"), (own, "end"), 0, by_name.get(own)))
        if own in most:
            arcs.append(((own, "begin"), (own, "end"), -most[own], None))
    return arcs


def solved(yard, prices, name, pace):
    """(BOUGHT, FLOW): what is cheapest, and what shows it; None if nothing that can be bought does."""
    if barring_ring(yard, prices, name, pace) is not None:
        return None
    names = leading_to(yard.needs, name)
    places = [(own, side) for own in names for side in ("begin", "end")]
    streams, heights = best_streams(places, arcs_of(yard, prices, name, pace))
    days = [(own, heights[own, "begin"] - heights[own, "end"]) for own in names]
    needs = [need for need, _ in links_to(yard, name)]
    bought = tuple([(own, less) for own, less in days if less > 0])
    return (bought, tuple([(need, amount) for need, amount in zip(needs, streams) if amount > 0]))


def cheapest(yard, prices, name, pace):
    """BOUGHT of the least cost with which the pace of this work is at most this one; None if there is none."""
    check_wish(yard, prices, name, pace)
    found = solved(yard, prices, name, pace)
    return None if found is None else found[0]


def shows_cheapest(yard, prices, name, pace, value):
    """Whether any value is such BOUGHT, or None where there is none."""
    best = cheapest(yard, prices, name, pace)
    if best is None:
        return value is None
    if not are_bought(yard, prices, value) or cost_of(prices, value) != cost_of(prices, best):
        return False
    return not is_less((pace, 1), slowest_ring(shorter(yard, value), name)[1])


def is_amount(yard, names, value):
    """Whether any value is a pair of a NEED between these works and an integer from 1 on."""
    return is_tuple_of(value, 2) and is_need_of(yard, value[0]) and value[0][1] in names and is_from(value[1], 1)


def stream_of(flow, at):
    """The stream at each work, by NAMES, told by its NEEDS as the work before, at 0, or behind, at 1."""
    streams = {}
    for need, amount in flow:
        streams[need[at]] = streams.get(need[at], 0) + amount
    return streams


def is_flow(yard, name, value):
    """Whether any value is a FLOW."""
    names = leading_to(yard.needs, name)
    if not isinstance(value, tuple) or not all([is_amount(yard, names, row) for row in value]):
        return False
    return is_ascending([need for need, _ in value]) and stream_of(value, 0) == stream_of(value, 1)


def worth_of(yard, prices, pace, flow):
    """The worth of this FLOW."""
    weights = weights_of(yard)
    number = sum([amount * (weights[need] - pace * need[2]) for need, amount in flow])
    streams = stream_of(flow, 0)
    most = most_bought(yard, prices)
    for name, price, _ in prices:
        number -= max(0, streams.get(name, 0) - price) * most[name]
    return number


def flow_worth(yard, prices, name, pace, flow):
    """The worth of this FLOW, below which nothing that does costs."""
    check_wish(yard, prices, name, pace)
    if not is_flow(yard, name, flow):
        raise BadFlow(flow)
    return worth_of(yard, prices, pace, flow)


def flow(yard, prices, name, pace):
    """A FLOW whose worth is the least cost; None if nothing that can be bought does."""
    check_wish(yard, prices, name, pace)
    found = solved(yard, prices, name, pace)
    return None if found is None else found[1]


def shows_flow(yard, prices, name, pace, value):
    """Whether any value is such a FLOW, or None where nothing that can be bought does."""
    best = cheapest(yard, prices, name, pace)
    if best is None:
        return value is None
    return is_flow(yard, name, value) and worth_of(yard, prices, pace, value) == cost_of(prices, best)


def bar(yard, prices, name, pace):
    """A ring with more days than pace times its back, whatever is bought; None if something that does can be."""
    check_wish(yard, prices, name, pace)
    return barring_ring(yard, prices, name, pace)


def are_round(yard, names, value):
    """Whether any value is a ring of NEEDS between these works, which may be gone through more than once."""
    if not isinstance(value, tuple) or not value or not all([is_need_of(yard, need) for need in value]):
        return False
    last = value[-1][1]
    for before, behind, _, _ in value:
        if before != last:
            return False
        last = behind
    return last in names


def shows_bar(yard, prices, name, pace, value):
    """Whether any value is such a ring, or None where something that does can be bought."""
    check_wish(yard, prices, name, pace)
    if value is None:
        return barring_ring(yard, prices, name, pace) is None
    if not are_round(yard, leading_to(yard.needs, name), value):
        return False
    most = most_bought(yard, prices)
    days, back = days_and_back(weights_of(yard), value)
    return days - sum([most.get(need[0], 0) for need in value]) > pace * back
