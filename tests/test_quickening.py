"""Section 12, and the guarantee (g) of section 3."""

import random
import unittest
from itertools import product
from math import ceil

from afloatintime import quickening, rings, tables, yards
from afloatintime.errors import BadBought, BadFlow, BadPace, BadPrices, NoWork
from afloatintime.yards import Yard
from tests import plain, plain_wide
from tests.samples import ANY, near, random_yard
from tests.test_rings import large_yards
from tests.test_tables import yard_of

NEEDS = (("build", "build", 1, 0), ("build", "dock", 0, 0), ("dock", "dock", 1, 0), ("dock", "float", 0, 0))
YARD = Yard((("build", 4), ("dock", 5), ("float", 0)), NEEDS)
PRICES = (("build", 3, 2), ("dock", 2, 3))
LINE = Yard((("hull", 6), ("keel", 4)), (("hull", "keel", 1, 0), ("keel", "hull", 0, 0), ("keel", "keel", 1, 1)))


def least_of(yard, name):
    """The least days that a work can come to last, by the waits of its NEEDS."""
    return max([0] + [-need[3] for need in yard.needs if need[0] == name])


def random_prices(rng, yard, most=999):
    found = []
    for name, days in yard.works:
        if rng.random() < 0.8:
            least = rng.randint(least_of(yard, name), days)
            found.append((name, rng.choice((1, 2, 3, rng.randint(1, most))), least))
    return tuple(found)


def cases(seed, many):
    """(YARD, PRICES, NAME, pace), the pace near to those that can be had, a few of the works without any ring."""
    rng = random.Random(seed)
    found = []
    while len(found) < many:
        yard = random_yard(rng, most_works=4, most_needs=9)
        prices = random_prices(rng, yard)
        lots = 1
        for days in plain_wide.most_bought(yard.works, prices).values():
            lots *= days + 1
        name = rng.choice(yard.names)
        most = int(plain.pace(yard.works, yard.needs, name))
        least = plain.pace(shortest(yard, prices), yard.needs, name)
        if lots <= 800 and (most > least or rng.random() < 0.1):
            found.append((yard, prices, name, max(0, rng.randint(ceil(least) - 1, most))))
    return found


def crossed(seed, many):
    """The same, with works of many rings: streams that are worth much at first have to be taken back again."""
    rng = random.Random(seed)
    found = []
    while len(found) < many:
        names = "abc"[: rng.randint(2, 3)]
        rows = set()
        for _ in range(rng.randint(3, 8)):
            one, other = rng.randrange(len(names)), rng.randrange(len(names))
            back = 0 if one < other and rng.random() < 0.6 else rng.randint(1, 2)
            rows.add((names[one], names[other], back, 0))
        yard = yard_of({name: rng.randint(3, 9) for name in names}, *rows)
        prices = tuple((name, rng.randint(1, 9), 0) for name in names)
        most = int(plain.pace(yard.works, yard.needs, names[-1]))
        if most:
            found.append((yard, prices, names[-1], rng.randint(0, most)))
    return found


def shortest(yard, prices):
    """The WORKS, as short as can be bought."""
    most = plain_wide.most_bought(yard.works, prices)
    return tuple((name, days - most.get(name, 0)) for name, days in yard.works)


class Bought(unittest.TestCase):
    def test_nothing_bought(self):
        self.assertEqual(quickening.quickened(YARD, PRICES, ()), YARD)
        self.assertEqual(quickening.cost(YARD, PRICES, ()), 0)
        self.assertEqual(quickening.quickened(YARD, (), ()), YARD)

    def test_works_last_so_much_less(self):
        quick = quickening.quickened(YARD, PRICES, (("build", 2), ("dock", 1)))
        self.assertEqual(quick, Yard((("build", 2), ("dock", 4), ("float", 0)), NEEDS))
        self.assertEqual(quickening.cost(YARD, PRICES, (("build", 2), ("dock", 1))), 8)
        self.assertEqual(quick, yards.lasting(yards.lasting(YARD, "build", 2), "dock", 4))

    def test_a_quickened_yard_is_a_yard(self):
        quick = quickening.quickened(YARD, PRICES, (("build", 1), ("dock", 2)))
        self.assertEqual(yards.read_yard(quick.text), quick)
        self.assertEqual(tables.table(quick, (), ()), (0, 1, ((0, 3, 6),)))

    def test_a_wait_below_0(self):
        yard = yard_of({"a": 5, "b": 1}, ("a", "a", 1, -2), ("a", "b", 0, -4))
        quick = quickening.quickened(yard, (("a", 7, 4),), (("a", 1),))
        self.assertEqual(quick.works, (("a", 4), ("b", 1)))
        for least in (3, 6, -1, True, "4", None):
            with self.assertRaises(BadPrices):
                quickening.cost(yard, (("a", 7, least),), ())
        self.assertEqual(quickening.cost(yard, (("a", 7, 5),), ()), 0)

    def test_edges_of_prices(self):
        for price in (1, 999):
            self.assertEqual(quickening.cost(YARD, (("dock", price, 0),), (("dock", 5),)), 5 * price)
        for prices in (
            (("dock", 0, 0),),
            (("dock", 1000, 0),),
            (("dock", -1, 0),),
            (("dock", True, 0),),
            (("dock", 1, False),),
            (("dock", 1, 6),),
            (("zz", 1, 0),),
            (("dock", 1),),
            (("dock", 1, 0, 0),),
            (["dock", 1, 0],),
            [("dock", 1, 0)],
            PRICES[::-1],
            PRICES[:1] + PRICES[:1],
            (("dock", 1, 0), ("dock", 2, 0)),
            None,
        ):
            with self.assertRaises(BadPrices) as caught:
                quickening.quickened(YARD, prices, None)
            self.assertIs(caught.exception.value, prices)

    def test_the_least_is_not_below_0_where_no_need_leads_from_the_work(self):
        quickening.cost(YARD, (("float", 1, 0),), ())
        for least in (-1, 1):
            with self.assertRaises(BadPrices):
                quickening.cost(YARD, (("float", 1, least),), ())

    def test_edges_of_bought(self):
        quickening.cost(YARD, PRICES, (("build", 2), ("dock", 2)))
        for bought in (
            (("build", 3),),
            (("dock", 0),),
            (("dock", -1),),
            (("dock", True),),
            (("float", 1),),
            (("zz", 1),),
            (("dock", 1), ("build", 1)),
            (("dock", 1), ("dock", 1)),
            (("dock", 1), ("dock", 2)),
            (["dock", 1],),
            [("dock", 1)],
            (("dock", 1, 0),),
            None,
        ):
            for function in (quickening.quickened, quickening.cost):
                with self.assertRaises(BadBought) as caught:
                    function(YARD, PRICES, bought)
                self.assertIs(caught.exception.value, bought)

    def test_a_work_that_cannot_be_quickened_has_a_price_all_the_same(self):
        with self.assertRaises(BadBought):
            quickening.cost(YARD, (("dock", 2, 5),), (("dock", 1),))
        self.assertIsNone(quickening.cheapest(YARD, (("dock", 2, 5),), "dock", 4))


class Cheapest(unittest.TestCase):
    def test_no_prices(self):
        self.assertEqual(quickening.cheapest(YARD, (), "float", 5), ())
        self.assertEqual(quickening.flow(YARD, (), "float", 5), ())
        self.assertIsNone(quickening.bar(YARD, (), "float", 5))
        self.assertIsNone(quickening.cheapest(YARD, (), "float", 4))
        self.assertIsNone(quickening.flow(YARD, (), "float", 4))
        self.assertEqual(quickening.bar(YARD, (), "float", 4), (NEEDS[2],))

    def test_no_rings(self):
        yard = yard_of({"a": 9, "b": 1}, ("a", "b", 0, 0))
        self.assertEqual(quickening.cheapest(yard, (("a", 1, 0),), "b", 0), ())
        self.assertEqual(quickening.flow(yard, (("a", 1, 0),), "b", 0), ())

    def test_works_that_no_ring_leads_to_are_not_bought(self):
        yard = yard_of({"a": 9, "b": 9}, ("a", "b", 0, 0), ("b", "b", 1, 0))
        prices = (("a", 1, 0), ("b", 9, 0))
        self.assertEqual(quickening.cheapest(yard, prices, "a", 0), ())
        self.assertEqual(quickening.cheapest(yard, prices, "b", 3), (("b", 6),))
        self.assertEqual(quickening.cheapest(YARD, PRICES, "build", 3), (("build", 1),))

    def test_a_work_of_two_rings_is_bought_once(self):
        needs = [("a", "b", 0, 0), ("b", "a", 1, 0), ("b", "c", 0, 0), ("c", "b", 1, 0)]
        yard = yard_of({"a": 5, "b": 5, "c": 5}, *needs)
        for price, bought in ((5, (("b", 2),)), (7, (("a", 2), ("c", 2)))):
            prices = (("a", 3, 0), ("b", price, 0), ("c", 3, 0))
            self.assertEqual(quickening.cheapest(yard, prices, "c", 8), bought)
            self.assertTrue(quickening.shows_cheapest(yard, prices, "c", 8, bought))

    def test_cheap_days_first_and_given_back_where_they_are_not_wanted(self):
        # At 4 days the keel's one day is bought, at 8 days the hull's, cheaper together than any other lot.
        prices = (("hull", 5, 1), ("keel", 4, 3))
        costs = [quickening.cost(LINE, prices, quickening.cheapest(LINE, prices, "hull", pace)) for pace in range(10, 3, -1)]
        self.assertEqual(costs, [0, 4, 9, 14, 19, 24, 29])

    def test_equal_costs(self):
        yard = yard_of({"a": 5, "b": 5}, ("a", "b", 0, 0), ("b", "a", 1, 0))
        prices = (("a", 2, 0), ("b", 2, 0))
        for less in range(4):
            bought = tuple((name, days) for name, days in (("a", less), ("b", 3 - less)) if days)
            self.assertTrue(quickening.shows_cheapest(yard, prices, "a", 7, bought))
        self.assertFalse(quickening.shows_cheapest(yard, prices, "a", 7, (("a", 2), ("b", 2))))
        self.assertFalse(quickening.shows_cheapest(yard, prices, "a", 7, (("a", 2),)))

    def test_as_dear_but_of_no_use(self):
        yard = yard_of({"a": 5, "b": 5, "c": 5}, ("a", "b", 0, 0), ("b", "a", 1, 0), ("c", "b", 1, 0))
        prices = tuple((name, 2, 0) for name in "abc")
        lots = ((("a", 3),), (("a", 2), ("c", 1)), (("b", 2), ("c", 1)), (("c", 3),), (("a", 1), ("b", 1), ("c", 1)))
        shown = [quickening.shows_cheapest(yard, prices, "a", 7, lot) for lot in lots]
        self.assertEqual(shown, [True, False, False, False, False])

    def test_pace(self):
        self.assertEqual(quickening.cheapest(YARD, PRICES, "dock", 99999), ())
        self.assertIsNone(quickening.cheapest(YARD, PRICES, "dock", 0))
        for pace in (-1, 100000, True, False, None, (3, 1), "3", 10**8):
            for function in (quickening.cheapest, quickening.flow, quickening.bar):
                with self.assertRaises(BadPace) as caught:
                    function(YARD, PRICES, "dock", pace)
                self.assertIs(caught.exception.value, pace)

    def test_against_all_that_can_be_bought(self):
        both = [0, 0, 0]
        for yard, prices, name, pace in cases("all lots", 400) + crossed("all lots", 250):
            right = plain_wide.cheapest(yard.works, yard.needs, prices, name, pace)
            both[bool(right) + bool(right and right[0])] += 1
            self.held(yard, prices, name, pace, right)
        self.assertGreater(min(both), 50)

    def held(self, yard, prices, name, pace, right):
        """What is told, held against all BOUGHT that are right."""
        bought = quickening.cheapest(yard, prices, name, pace)
        flow = quickening.flow(yard, prices, name, pace)
        bar = quickening.bar(yard, prices, name, pace)
        asked = (yard.text, prices, name, pace, bought)
        if not right:
            self.assertEqual((bought, flow), (None, None), asked)
            self.assertTrue(plain_wide.is_bar(yard.works, yard.needs, prices, name, pace, bar), asked)
        else:
            self.assertIn(bought, right, asked)
            self.assertIsNone(bar, asked)
            self.assertTrue(plain_wide.is_flow(yard.needs, name, flow), asked)
            self.assertEqual(plain_wide.worth(yard.works, prices, pace, flow), plain_wide.cost(prices, bought), asked)
        self.assertIs(quickening.shows_cheapest(yard, prices, name, pace, bought), True)
        self.assertIs(quickening.shows_flow(yard, prices, name, pace, flow), True)
        self.assertIs(quickening.shows_bar(yard, prices, name, pace, bar), True)
        for value in right:
            self.assertIs(quickening.shows_cheapest(yard, prices, name, pace, value), True)

    def test_large_yards(self):
        rng = random.Random("large")
        dear = 0
        for yard in large_yards("quick", 40):
            prices = tuple((name, rng.randint(1, 999), least_of(yard, name)) for name in yard.names)
            name = rng.choice(yard.names)
            top, bottom = rings.pace(yard, name)
            for pace in {top // bottom, top // bottom * 3 // 4, top // bottom // 2}:
                bought = quickening.cheapest(yard, prices, name, pace)
                bar = quickening.bar(yard, prices, name, pace)
                flow = quickening.flow(yard, prices, name, pace)
                if bought is None:
                    self.assertTrue(plain_wide.is_bar(yard.works, yard.needs, prices, name, pace, bar))
                    continue
                # What does, and a FLOW that is worth its cost: so nothing is cheaper.
                quick = quickening.quickened(yard, prices, bought)
                found = rings.pace(quick, name)
                self.assertLessEqual(found[0], pace * found[1])
                self.assertTrue(plain_wide.is_flow(yard.needs, name, flow))
                self.assertEqual(plain_wide.worth(yard.works, prices, pace, flow), plain_wide.cost(prices, bought))
                dear += bool(bought)
                self.assertIsNone(bar)
        self.assertGreater(dear, 20)

    def test_equal_calls(self):
        for yard, prices, name, pace in cases("again", 30):
            again = yards.read_yard(yard.text)
            for function in (quickening.cheapest, quickening.flow, quickening.bar):
                self.assertEqual(function(yard, prices, name, pace), function(again, prices, name, pace))


class Papers(unittest.TestCase):
    def test_near_to_what_is_cheapest(self):
        found = 0
        for yard, prices, name, pace in cases("near cheapest", 120):
            right = plain_wide.cheapest(yard.works, yard.needs, prices, name, pace)
            told = quickening.cheapest(yard, prices, name, pace)
            lots = list(plain_wide.all_bought(yard.works, prices))
            as_dear = [lot for lot in lots if right and plain_wide.cost(prices, lot) == plain_wide.cost(prices, told)]
            for value in list(near(told))[:150] + lots[:60] + as_dear[:60]:
                expected = any(plain.alike(value, own) for own in right) if right else value is None
                self.assertIs(quickening.shows_cheapest(yard, prices, name, pace, value), expected, (yard.text, value))
                found += 1
        self.assertGreater(found, 1500)

    def test_near_to_flows(self):
        found = 0
        for yard, prices, name, pace in cases("near flows", 80):
            bought = quickening.cheapest(yard, prices, name, pace)
            least = None if bought is None else plain_wide.cost(prices, bought)
            for value in list(near(quickening.flow(yard, prices, name, pace)))[:200]:
                right = plain_wide.is_flow(yard.needs, name, value)
                expected = value is None if least is None else (
                    right and plain_wide.worth(yard.works, prices, pace, value) == least
                )
                self.assertIs(quickening.shows_flow(yard, prices, name, pace, value), expected, (yard.text, value))
                if right:
                    worth = quickening.flow_worth(yard, prices, name, pace, value)
                    self.assertEqual(worth, plain_wide.worth(yard.works, prices, pace, value))
                    found += 1
                else:
                    with self.assertRaises(BadFlow) as caught:
                        quickening.flow_worth(yard, prices, name, pace, value)
                    self.assertIs(caught.exception.value, value)
        self.assertGreater(found, 100)

    def test_near_to_bars(self):
        found = 0
        for yard, prices, name, pace in cases("near bars", 120):
            told = quickening.bar(yard, prices, name, pace)
            for value in list(near(told))[:120]:
                if value is not None:
                    expected = plain_wide.is_bar(yard.works, yard.needs, prices, name, pace, value)
                    self.assertIs(quickening.shows_bar(yard, prices, name, pace, value), expected, (yard.text, value))
                    found += 1
            self.assertIs(quickening.shows_bar(yard, prices, name, pace, None), told is None)
        self.assertGreater(found, 1500)

    def test_streams_just_at_the_price_and_above_it(self):
        ring = NEEDS[2]
        worths = [quickening.flow_worth(YARD, PRICES, "float", 3, ((ring, amount),)) for amount in (1, 2, 3, 9)]
        self.assertEqual(worths, [2, 4, 4, 4])
        worths = [quickening.flow_worth(YARD, PRICES, "float", 4, ((ring, amount),)) for amount in (1, 2, 3, 9)]
        self.assertEqual(worths, [1, 2, 1, -5])
        self.assertEqual(quickening.flow_worth(YARD, (), "float", 3, ((ring, 10**30),)), 2 * 10**30)
        self.assertEqual(quickening.flow_worth(YARD, PRICES, "float", 99999, ((ring, 1),)), 5 - 99999)
        shown = [quickening.shows_flow(YARD, PRICES, "dock", 4, ((ring, amount),)) for amount in (1, 2, 3)]
        self.assertEqual(shown, [False, True, False])
        # All of the build's days have to be bought: beyond its price a stream is worth as much as at it.
        shown = [quickening.shows_flow(YARD, PRICES, "build", 2, ((NEEDS[0], amount),)) for amount in (2, 3, 4, 10**40)]
        self.assertEqual(shown, [False, True, True, True])

    def test_a_stream_through_one_work_by_two_needs_counts_together(self):
        yard = yard_of({"a": 5}, ("a", "a", 1, 0), ("a", "a", 1, 1))
        prices = (("a", 3, 0),)
        flows = [((need, amount),) for need in yard.needs for amount in (2, 3, 4)]
        self.assertEqual([quickening.flow_worth(yard, prices, "a", 2, flow) for flow in flows], [6, 9, 7, 8, 12, 11])
        both = ((yard.needs[0], 2), (yard.needs[1], 2))
        self.assertEqual(quickening.flow_worth(yard, prices, "a", 2, both), 6 + 8 - 5)

    def test_no_small_flow_is_worth_more_than_what_is_cheapest(self):
        for yard, prices, name, pace in cases("all flows", 60):
            bought = quickening.cheapest(yard, prices, name, pace)
            names = plain.leading(yard.needs, name)
            needs = [need for need in yard.needs if need[1] in names]
            if bought is None or len(needs) > 5:
                continue
            for amounts in product(range(4), repeat=len(needs)):
                value = tuple((need, amount) for need, amount in zip(needs, amounts) if amount)
                if plain_wide.is_flow(yard.needs, name, value):
                    worth = quickening.flow_worth(yard, prices, name, pace, value)
                    self.assertLessEqual(worth, plain_wide.cost(prices, bought))
                    is_right = worth == plain_wide.cost(prices, bought)
                    self.assertIs(quickening.shows_flow(yard, prices, name, pace, value), is_right)

    def test_rings_gone_round_again_and_begun_elsewhere_bar_too(self):
        two = LINE.needs[:2]
        prices = (("hull", 5, 1), ("keel", 4, 3))
        self.assertTrue(quickening.shows_bar(LINE, prices, "hull", 3, LINE.needs[2:]))
        self.assertTrue(quickening.shows_bar(LINE, prices, "hull", 3, two))
        self.assertTrue(quickening.shows_bar(LINE, prices, "hull", 3, two[::-1]))
        self.assertTrue(quickening.shows_bar(LINE, prices, "hull", 3, two + two))
        self.assertTrue(quickening.shows_bar(LINE, prices, "hull", 3, (two[0], LINE.needs[2], two[1])))
        self.assertFalse(quickening.shows_bar(LINE, prices, "hull", 3, two + LINE.needs[2:]))
        self.assertFalse(quickening.shows_bar(LINE, prices, "hull", 4, two))
        self.assertFalse(quickening.shows_bar(LINE, prices, "hull", 4, LINE.needs[2:]))

    def test_a_ring_of_works_without_a_price_just_bars(self):
        shown = [quickening.shows_bar(YARD, (), "float", pace, NEEDS[2:3]) for pace in (3, 4, 5, 6)]
        self.assertEqual(shown, [True, True, False, False])
        shown = [quickening.shows_bar(YARD, PRICES, "float", pace, NEEDS[2:3]) for pace in (1, 2, 3, 4)]
        self.assertEqual(shown, [True, True, False, False])

    def test_rings_that_do_not_lead_to_the_work(self):
        value = ((NEEDS[2], 1),)
        self.assertEqual(quickening.flow_worth(YARD, PRICES, "dock", 3, value), 2)
        with self.assertRaises(BadFlow) as caught:
            quickening.flow_worth(YARD, PRICES, "build", 3, value)
        self.assertIs(caught.exception.value, value)
        self.assertIs(quickening.shows_flow(YARD, PRICES, "build", 3, ((NEEDS[0], 3),)), True)
        self.assertIs(quickening.shows_flow(YARD, (("build", 1, 2),), "build", 4, ()), True)
        self.assertIs(quickening.shows_bar(YARD, PRICES, "build", 1, NEEDS[2:3]), False)
        self.assertIs(quickening.shows_bar(YARD, PRICES, "dock", 1, NEEDS[2:3]), True)

    def test_any_value(self):
        for value in ANY:
            for function in (quickening.shows_cheapest, quickening.shows_flow, quickening.shows_bar):
                none = function is not quickening.shows_bar
                self.assertIs(function(YARD, PRICES, "float", 2, value), none and value is None)
                self.assertIs(function(YARD, PRICES, "float", 3, value), not none and value is None)
                self.assertIs(function(YARD, PRICES, "float", 5, value), value is None if not none else value == ())
            self.assertIs(quickening.shows_bar(YARD, PRICES, "float", 2, (value,)), False)
            self.assertIs(quickening.shows_flow(YARD, PRICES, "float", 3, (value,)), False)

    def test_errors_in_sequence(self):
        for arguments, error in (
            ((PRICES[::-1], "zz", -1), BadPrices),
            ((PRICES, "zz", -1), NoWork),
            ((PRICES, "dock", -1), BadPace),
        ):
            for function in (quickening.cheapest, quickening.flow, quickening.bar):
                with self.assertRaises(error):
                    function(YARD, *arguments)
            for function in (quickening.shows_cheapest, quickening.shows_flow, quickening.shows_bar, quickening.flow_worth):
                with self.assertRaises(error):
                    function(YARD, *arguments, 7)
        with self.assertRaises(BadFlow):
            quickening.flow_worth(YARD, PRICES, "dock", 2, 7)


if __name__ == "__main__":
    unittest.main()
