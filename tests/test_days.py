"""Section 5, and the guarantee (a) of section 3."""

import random
import unittest

from afloatintime import days
from afloatintime.errors import BadChanges, BadDelays, BadPart, BadShip, BadTrail
from afloatintime.yards import Yard
from tests import plain
from tests.samples import ANY, near, random_rows, random_yards

TWO = Yard((("dock", 9), ("steel", 2)), (("dock", "dock", 2, 0), ("steel", "dock", 0, 0)))
LINE = Yard((("a", 3), ("b", 2)), (("a", "a", 1, 0), ("a", "b", 0, -1), ("b", "b", 3, 4)))


def cases(seed, many, ships=8):
    """(YARD, DELAYS, CHANGES) of many kinds, some without one or both of the latter."""
    rng = random.Random(seed)
    found = []
    for yard in random_yards(seed, many):
        delays = random_rows(rng, yard, ships, 0, 40) if rng.random() < 0.7 else ()
        changes = random_rows(rng, yard, ships, 1, 9) if rng.random() < 0.7 else ()
        found.append((yard, delays, changes))
    return found


class EarliestDays(unittest.TestCase):
    def test_day_by_day(self):
        self.assertEqual(days.earliest_days(LINE, (), (), 4), ((0, 2), (3, 5), (6, 8), (9, 11), (12, 14)))
        late = ((1, "a", 3), (2, "a", 7))
        self.assertEqual(days.earliest_days(LINE, late, (), 3), ((0, 2), (3, 5), (7, 9), (10, 12)))
        self.assertEqual(days.earliest_days(LINE, ((0, "b", 20),), (), 3)[3], (9, 26))
        self.assertEqual(days.earliest_days(LINE, (), ((1, "a", 2),), 3), ((0, 2), (3, 7), (8, 10), (11, 13)))

    def test_without_needs_all_begin_at_0(self):
        yard = Yard((("a", 3), ("b", 2)), ())
        self.assertEqual(days.earliest_days(yard, (), (), 2), ((0, 0),) * 3)
        self.assertEqual(days.earliest_days(yard, ((1, "b", 7),), ((1, "a", 9),), 2), ((0, 0), (0, 7), (0, 0)))

    def test_a_wait_below_0_and_a_weight_of_0(self):
        yard = Yard((("a", 3), ("b", 2)), (("a", "b", 0, -3), ("b", "b", 1, -2)))
        self.assertEqual(days.earliest_days(yard, (), (), 3), ((0, 0),) * 4)
        self.assertEqual(days.earliest_days(yard, ((1, "a", 5),), (), 3), ((0, 0), (5, 5), (0, 5), (0, 5)))
        self.assertEqual(days.earliest_days(yard, (), ((1, "b", 1),), 3), ((0, 0), (0, 0), (0, 1), (0, 1)))

    def test_needs_say_nothing_of_the_first_ships(self):
        yard = Yard((("a", 99),), (("a", "a", 9, 99),))
        told = days.earliest_days(yard, (), (), 18)
        self.assertEqual(told, ((0,),) * 9 + ((198,),) * 9 + ((396,),))

    def test_first_and_last_ship(self):
        self.assertEqual(days.earliest_days(LINE, (), (), 0), ((0, 2),))
        told = days.earliest_days(LINE, (), (), 2000)
        self.assertEqual((len(told), told[2000]), (2001, (6000, 6002)))
        self.assertEqual(days.earliest_day(LINE, (), (), "b", 2000), 6002)
        for ship in (-1, 2001, True, "0"):
            for look in (
                lambda: days.earliest_days(LINE, (), (), ship),
                lambda: days.earliest_day(LINE, (), (), "a", ship),
                lambda: days.reason(LINE, (), (), "a", ship),
                lambda: days.shows_reason(LINE, (), (), "a", ship, None),
            ):
                with self.assertRaises(BadShip) as caught:
                    look()
                self.assertIs(caught.exception.value, ship)

    def test_greatest_delays_and_changes(self):
        twelve = tuple((ship, "a", 1000 * ship) for ship in range(88, 100))
        self.assertEqual(days.earliest_day(LINE, twelve, (), "a", 99), 99000)
        self.assertEqual(days.earliest_day(LINE, twelve, (), "b", 100), 99005)
        longer = tuple((ship, "a", 99) for ship in range(88, 100))
        self.assertEqual(days.earliest_day(LINE, (), longer, "a", 100), 300 + 12 * 99)
        self.assertEqual(days.earliest_day(LINE, ((0, "a", 999999999),), (), "a", 1), 1000000002)
        for rows in (((87, "a", 5),) + twelve, ((100, "a", 5),), ((0, "a", -1),)):
            with self.assertRaises(BadDelays) as caught:
                days.earliest_days(LINE, rows, (), 1)
            self.assertIs(caught.exception.value, rows)
        for rows in (((87, "a", 99),) + longer, ((100, "a", 5),), ((0, "a", 0),), ((0, "a", 100),)):
            with self.assertRaises(BadChanges) as caught:
                days.earliest_days(LINE, (), rows, 1)
            self.assertIs(caught.exception.value, rows)

    def test_delays_of_later_ships_do_not_matter(self):
        late = days.earliest_days(LINE, ((50, "a", 999),), ((50, "a", 9),), 4)
        self.assertEqual(late, days.earliest_days(LINE, (), (), 4))

    def test_a_delay_of_day_0_and_one_that_is_past(self):
        late = days.earliest_days(LINE, ((0, "a", 0), (3, "a", 9)), (), 5)
        self.assertEqual(late, days.earliest_days(LINE, (), (), 5))

    def test_against_ship_by_ship(self):
        for yard, delays, changes in cases(51, 250):
            expected = plain.days(yard.works, yard.needs, delays, changes, 12)
            self.assertEqual(days.earliest_days(yard, delays, changes, 11), expected)
            for at, name in enumerate(yard.names):
                for ship in (0, 3, 11):
                    self.assertEqual(days.earliest_day(yard, delays, changes, name, ship), expected[ship][at])

    def test_equal_calls(self):
        for yard, delays, changes in cases(52, 20):
            again = Yard(yard.works, yard.needs)
            name = yard.names[-1]
            for look in (days.earliest_day, days.reason):
                self.assertEqual(look(yard, delays, changes, name, 9), look(again, delays, changes, name, 9))


class Trails(unittest.TestCase):
    def test_worth(self):
        late = ((3, "steel", 15),)
        self.assertEqual(days.worth(TWO, late, (), (3, "steel", ())), (3, "steel", 15))
        self.assertEqual(days.worth(TWO, late, (), (2, "steel", ())), (2, "steel", 0))
        self.assertEqual(days.worth(TWO, late, (), (3, "steel", (("steel", "dock", 0, 0),))), (3, "dock", 17))
        changes = ((3, "steel", 4), (5, "dock", 1))
        needs = (("steel", "dock", 0, 0),) + (("dock", "dock", 2, 0),) * 2
        self.assertEqual(days.worth(TWO, late, changes, (3, "steel", needs)), (7, "dock", 15 + 2 + 4 + 9 + 9 + 1))

    def test_a_delay_on_the_way_counts_nothing(self):
        trail = (0, "dock", (("dock", "dock", 2, 0),))
        self.assertEqual(days.worth(TWO, ((2, "dock", 50),), (), trail), (2, "dock", 9))

    def test_a_trail_may_begin_at_any_ship(self):
        self.assertEqual(days.worth(TWO, (), (), (10**8, "dock", (("dock", "dock", 2, 0),))), (10**8 + 2, "dock", 9))
        self.assertEqual(days.worth(TWO, (), (), (0, "dock", (("dock", "dock", 2, 0),) * 1200)), (2400, "dock", 10800))

    def test_no_trails(self):
        for value in ((0, "dock", (("steel", "dock", 0, 0),)), (0, "steel", (("steel", "dock", 0, 0),) * 2), None):
            with self.assertRaises(BadTrail) as caught:
                days.worth(TWO, (), (), value)
            self.assertIs(caught.exception.value, value)

    def test_reason_has_the_earliest_day(self):
        for yard, delays, changes in cases(53, 120):
            for name in yard.names:
                for ship in (0, 1, 2, 5, 9):
                    found = days.reason(yard, delays, changes, name, ship)
                    day = days.earliest_day(yard, delays, changes, name, ship)
                    self.assertEqual(plain.trail_end(yard.works, yard.needs, delays, changes, found), (ship, name, day))
                    self.assertIs(days.shows_reason(yard, delays, changes, name, ship, found), True)
                    self.assertEqual(days.worth(yard, delays, changes, found), (ship, name, day))

    def test_reason_of_the_last_ship(self):
        found = days.reason(LINE, (), (), "b", 2000)
        self.assertEqual(days.worth(LINE, (), (), found), (2000, "b", 6002))

    def test_reason_without_needs(self):
        self.assertEqual(days.reason(TWO, (), (), "steel", 8), (8, "steel", ()))
        self.assertEqual(days.reason(TWO, ((8, "steel", 30),), (), "steel", 8), (8, "steel", ()))

    def test_worth_and_shows_reason_near_to_trails(self):
        rng = random.Random(54)
        told = []
        for yard, delays, changes in cases(55, 25, ships=4):
            name = rng.choice(yard.names)
            ship = rng.randint(0, 5)
            day = days.earliest_day(yard, delays, changes, name, ship)
            for value in near(days.reason(yard, delays, changes, name, ship)):
                end = plain.trail_end(yard.works, yard.needs, delays, changes, value)
                shown = days.shows_reason(yard, delays, changes, name, ship, value)
                self.assertIs(shown, end == (ship, name, day), value)
                told.append(shown)
                if end is None:
                    with self.assertRaises(BadTrail) as caught:
                        days.worth(yard, delays, changes, value)
                    self.assertIs(caught.exception.value, value)
                else:
                    self.assertEqual(days.worth(yard, delays, changes, value), end)
        self.assertEqual({True, False}, set(told))

    def test_shows_reason_of_all_short_trails(self):
        for yard, delays, changes in cases(56, 40, ships=4):
            trails = [(ship, name, ()) for ship in range(4) for name in yard.names]
            for _ in range(3):
                trails.extend(
                    (ship, name, steps + (need,))
                    for ship, name, steps in list(trails)
                    for need in yard.needs
                    if need[0] == (steps[-1][1] if steps else name) and len(steps) < 2
                )
            for name in yard.names:
                day = days.earliest_day(yard, delays, changes, name, 3)
                for value in trails:
                    end = plain.trail_end(yard.works, yard.needs, delays, changes, value)
                    self.assertIs(days.shows_reason(yard, delays, changes, name, 3, value), end == (3, name, day))
                    if end[:2] == (3, name):
                        self.assertLessEqual(end[2], day)

    def test_shows_reason_for_any_value(self):
        for value in ANY:
            self.assertIs(days.shows_reason(TWO, (), (), "dock", 4, value), False)


class Parts(unittest.TestCase):
    def test_broken_by_ships_then_delays_then_needs(self):
        yard = Yard((("a", 2), ("b", 1)), (("a", "a", 1, 0), ("a", "b", 0, 0), ("b", "b", 1, 0)))
        delays = ((0, "b", 3), (1, "a", 4), (1, "b", 7))
        self.assertIsNone(days.broken(yard, delays, (), ((0, 3), (4, 7))))
        self.assertEqual(days.broken(yard, delays, (), ((0, 2), (0, 0))), ("delay", 0, "b"))
        self.assertEqual(days.broken(yard, delays, (), ((2, 3), (0, 0))), ("need", 0, ("a", "b", 0, 0)))
        self.assertEqual(days.broken(yard, delays, (), ((0, 3), (0, 0))), ("delay", 1, "a"))
        self.assertEqual(days.broken(yard, delays, (), ((0, 3), (4, 0))), ("delay", 1, "b"))
        self.assertEqual(days.broken(yard, delays, (), ((3, 5), (4, 9))), ("need", 1, ("a", "a", 1, 0)))
        self.assertEqual(days.broken(yard, delays, (), ((3, 7), (5, 7))), ("need", 1, ("b", "b", 1, 0)))
        self.assertEqual(days.broken(yard, delays, (), ((3, 7), (7, 7))), ("need", 1, ("a", "b", 0, 0)))

    def test_broken_by_changes(self):
        yard = Yard((("a", 2),), (("a", "a", 1, 0),))
        self.assertIsNone(days.broken(yard, (), ((1, "a", 3),), ((0,), (2,), (7,))))
        self.assertEqual(days.broken(yard, (), ((1, "a", 3),), ((0,), (2,), (6,))), ("need", 2, ("a", "a", 1, 0)))
        self.assertEqual(days.broken(yard, (), ((0, "a", 3),), ((0,), (2,), (6,))), ("need", 1, ("a", "a", 1, 0)))

    def test_only_delays_and_needs_between_these_ships(self):
        self.assertIsNone(days.broken(TWO, ((3, "steel", 50),), (), ((2, 0), (2, 0))))
        self.assertTrue(days.is_earliest(TWO, ((3, "steel", 50),), ((1, "dock", 9),), ((2, 0), (2, 0))))

    def test_parts_of_1_and_200_ships(self):
        self.assertIsNone(days.broken(LINE, (), (), ((0, 2),)))
        whole = days.earliest_days(LINE, (), (), 199)
        self.assertIsNone(days.broken(LINE, (), (), whole))
        self.assertIs(days.is_earliest(LINE, (), (), whole), True)
        later = whole[:199] + ((597, 600),)
        self.assertIsNone(days.broken(LINE, (), (), later))
        self.assertIs(days.is_earliest(LINE, (), (), later), False)
        sooner = whole[:199] + ((597, 598),)
        self.assertEqual(days.broken(LINE, (), (), sooner), ("need", 199, ("a", "b", 0, -1)))
        for part in ((), days.earliest_days(LINE, (), (), 200)):
            for look in (days.broken, days.is_earliest):
                with self.assertRaises(BadPart) as caught:
                    look(LINE, (), (), part)
                self.assertIs(caught.exception.value, part)

    def test_near_to_the_earliest_days(self):
        found = []
        for yard, delays, changes in cases(57, 60, ships=4):
            part = plain.days(yard.works, yard.needs, delays, changes, 4)
            for at in range(4):
                for place in range(len(yard.names)):
                    for more in (-2, -1, 0, 1, 2, 5):
                        day = max(0, part[at][place] + more)
                        row = part[at][:place] + (day,) + part[at][place + 1 :]
                        changed = part[:at] + (row,) + part[at + 1 :]
                        expected = plain.first_broken(yard.works, yard.needs, delays, changes, changed)
                        told = days.broken(yard, delays, changes, changed)
                        self.assertEqual(told, expected)
                        self.assertIs(days.is_earliest(yard, delays, changes, changed), changed == part)
                        found.append(told and told[0])
        self.assertEqual({None, "delay", "need"}, set(found))

    def test_parts_at_random(self):
        rng = random.Random(58)
        for yard, delays, changes in cases(59, 100, ships=3):
            for _ in range(10):
                part = tuple(tuple(rng.randint(0, 20) for _ in yard.names) for _ in range(rng.randint(1, 5)))
                expected = plain.first_broken(yard.works, yard.needs, delays, changes, part)
                self.assertEqual(days.broken(yard, delays, changes, part), expected)

    def test_a_part_of_another_kind(self):
        part = days.earliest_days(TWO, (), (), 2)
        for value in near(part):
            right = type(value) is tuple and value and all(type(row) is tuple and len(row) == 2 for row in value)
            if right and all(type(day) is int and day >= 0 for row in value for day in row):
                expected = days.earliest_days(TWO, (), (), len(value) - 1)
                self.assertIs(days.is_earliest(TWO, (), (), value), value == expected)
                continue
            for look in (days.broken, days.is_earliest):
                with self.assertRaises(BadPart) as caught:
                    look(TWO, (), (), value)
                self.assertIs(caught.exception.value, value)


class Guarantee(unittest.TestCase):
    def test_one_plan_has_all_earliest_days_and_nothing_is_earlier(self):
        for yard, delays, changes in cases(60, 60):
            part = days.earliest_days(yard, delays, changes, 9)
            self.assertIsNone(days.broken(yard, delays, changes, part))
            for ship, row in enumerate(part):
                for name, day in zip(yard.names, row):
                    trail = days.reason(yard, delays, changes, name, ship)
                    self.assertEqual(days.worth(yard, delays, changes, trail), (ship, name, day))


if __name__ == "__main__":
    unittest.main()
