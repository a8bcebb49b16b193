"""Section 7, and the guarantee (c) of section 3."""

import random
import unittest

from afloatintime import days, rings, tables
from afloatintime.errors import BadChanges, BadDay, BadDelays, BadShip, NoWork, TooLong
from afloatintime.yards import Yard
from tests import plain, plain_far
from tests.samples import ANY, near, random_rows, random_yards

FAR = 10**18
NEEDS = (("build", "build", 1, 0), ("build", "dock", 0, 0), ("dock", "dock", 2, 0))
SLOW, QUICK = (Yard((("build", build), ("dock", 5)), NEEDS) for build in (3, 2))


def yard_of(lasts, *needs):
    return Yard(tuple(sorted(lasts.items())), tuple(sorted(needs)))


# By a DELAY of a on day D the work c waits for a, of 9 days a ship, until b, of 10 days a ship, overtakes it.
RACE = (("a", "a", 1, 0), ("a", "c", 0, 0), ("b", "b", 1, 0), ("b", "c", 0, -1))
RACING = yard_of({"a": 9, "b": 10, "c": 0}, *RACE)
# Four rings that come round together each 840 ships.
WHEELS = tuple((name, name, back, 0) for name, back in zip("wxyz", (8, 7, 5, 3)))
WHEELED = yard_of({"w": 1, "x": 1, "y": 1, "z": 1}, *WHEELS)


def wheels(*backs):
    """A YARD with a ring of NEEDS for each of these tuples of backs, each ring a day long, and a work z."""
    needs = []
    for letter, told in zip("abcd", backs):
        names = [f"{letter}{at}" for at in range(len(told))]
        needs.extend((one, other, back, 0) for one, other, back in zip(names, names[1:] + names[:1], told))
    lasts = {name: int(name.endswith("0")) for need in needs for name in need[:2]}
    return yard_of({**lasts, "z": 1}, *needs)


def cases(seed, many):
    """YARDS with DELAYS and CHANGES, some of them without any."""
    rng = random.Random(seed)
    found = []
    for yard in random_yards(seed, many):
        delays = random_rows(rng, yard, 7, 0, 60) if rng.random() < 0.6 else ()
        changes = random_rows(rng, yard, 7, 1, 30) if rng.random() < 0.6 else ()
        found.append((yard, delays, changes))
    return found


def rows_of(yard, delays, changes, many):
    return plain_far.days(yard.works, yard.needs, delays, changes, many)


class ShortestTables(unittest.TestCase):
    def long(self, yard, delays, changes):
        with self.assertRaises(TooLong) as caught:
            tables.table(yard, delays, changes)
        self.assertIsNone(caught.exception.value)

    def test_without_needs(self):
        yard = yard_of({"a": 3, "b": 0})
        self.assertEqual(tables.table(yard, (), ()), (0, 1, ((0, 0),)))
        self.assertEqual(tables.table(yard, (), ((5, "a", 9),)), (0, 1, ((0, 0),)))
        late = tables.table(yard, ((2, "b", 7),), ())
        self.assertEqual(late, (3, 1, ((0, 0), (0, 0), (0, 7), (0, 0))))

    def test_needs_without_rings(self):
        yard = yard_of({"a": 3, "b": 2, "c": 1}, ("a", "b", 3, 0), ("b", "c", 2, -2))
        self.assertEqual(tables.table(yard, (), ())[:2], (5, 1))
        self.assertEqual(tables.table(yard, ((99, "a", 4),), ())[:2], (105, 1))
        self.assertEqual(tables.day_of(yard, ((99, "a", 4),), (), "c", 104), 7)
        self.assertEqual(tables.day_of(yard, ((99, "a", 4),), (), "c", FAR), 3)

    def test_a_ring_of_no_days(self):
        yard = yard_of({"a": 2}, ("a", "a", 3, -2))
        self.assertEqual(tables.table(yard, (), ()), (0, 1, ((0,),)))
        self.assertEqual(tables.table(yard, ((1, "a", 6),), ()), (0, 3, ((0,), (6,), (0,))))
        self.assertEqual(tables.steady(yard, ((4, "a", 6),), (), "a"), (2, 3))
        self.assertIsNone(tables.ships_by(yard, ((1, "a", 6),), (), "a", 0))
        all_late = tuple((ship, "a", 6) for ship in range(3))
        self.assertEqual(tables.table(yard, all_late, ()), (0, 1, ((6,),)))
        self.assertEqual(tables.ships_by(yard, all_late, (), "a", 5), 0)
        self.assertIsNone(tables.ships_by(yard, all_late, (), "a", 6))

    def test_a_lot_with_a_beat_need_not_show_it(self):
        yard = yard_of({"a": 4}, ("a", "a", 2, 0), ("a", "a", 1, -2))
        self.assertEqual((rings.beat(yard, "a"), tables.table(yard, (), ())[:2]), (1, (0, 1)))
        even = yard_of({"a": 4}, ("a", "a", 2, 0))
        self.assertEqual(tables.table(even, (), ()), (0, 2, ((0,), (0,))))
        self.assertEqual(tables.table(even, ((1, "a", 2),), ()), (0, 1, ((0,),)))
        self.assertEqual(tables.table(even, ((1, "a", 3),), ()), (0, 2, ((0,), (3,))))

    def test_several_lots_with_unlike_paces_and_beats(self):
        needs = (("a", "a", 2, 0), ("b", "b", 3, 0), ("a", "c", 0, 0), ("b", "c", 1, 0))
        yard = yard_of({"a": 5, "b": 9, "c": 1}, *needs)
        self.assertEqual(rings.paces(yard), (("a", (5, 2)), ("b", (3, 1)), ("c", (3, 1))))
        self.assertEqual(tables.table(yard, (), ())[1], 6)
        self.assertEqual([tables.steady(yard, (), (), name)[1] for name in "abc"], [2, 3, 3])
        self.assertEqual(tables.table(WHEELED, (), ())[:2], (0, 840))
        self.assertEqual([tables.steady(WHEELED, (), (), name) for name in "wxyz"], [(0, 8), (0, 7), (0, 5), (0, 3)])

    def test_a_ring_that_overtakes_another_one_late(self):
        told = tables.table(RACING, ((0, "a", 20),), ())
        self.assertEqual((told[:2], told[2][19:]), ((20, 1), ((191, 190, 200), (200, 200, 209))))
        self.assertEqual([tables.steady(RACING, ((0, "a", 20),), (), name) for name in "abc"], [(0, 1), (0, 1), (20, 1)])

    def test_just_short_enough_and_just_too_long(self):
        told = tables.table(RACING, ((0, "a", 999),), ())
        self.assertEqual((told[:2], len(told[2])), ((999, 1), 1000))
        self.assertEqual(tables.day_of(RACING, ((0, "a", 999),), (), "c", 998), 999 + 9 * 999)
        self.assertEqual(tables.day_of(RACING, ((0, "a", 999),), (), "c", FAR), 10 * FAR + 9)
        self.long(RACING, ((0, "a", 1000),), ())
        self.long(RACING, ((0, "a", 10**30),), ())
        self.long(RACING, ((0, "a", 1000),), ((0, "c", 5),))

    def test_long_rounds(self):
        yard = Yard(RACING.works + WHEELED.works, tuple(sorted(RACE + WHEELS)))
        self.assertEqual(tables.table(yard, ((0, "a", 160),), ())[:2], (160, 840))
        self.long(yard, ((0, "a", 161),), ())
        more = Yard(WHEELED.works + (("zz", 1),), WHEELED.needs + (("zz", "zz", 9, 0),))
        self.long(more, (), ())
        for look in (tables.day_of, tables.steady, tables.ships_by):
            with self.assertRaises(TooLong):
                look(more, (), (), "w", *(() if look is tables.steady else (3,)))

    def test_too_long_is_told_behind_all_other_errors(self):
        yard = wheels((9, 4), (9, 2), (7,))
        for look, arguments, kind in (
            (tables.table, ([], ()), BadDelays),
            (tables.table, ((), []), BadChanges),
            (tables.day_of, ((), (), "zz", 3), NoWork),
            (tables.day_of, ((), (), "z", -1), BadShip),
            (tables.day_of, ((), (), "z", 3), TooLong),
            (tables.ships_by, ((), (), "zz", 3), NoWork),
            (tables.ships_by, ((), (), "z", FAR + 1), BadDay),
            (tables.ships_by, ((), (), "z", 3), TooLong),
            (tables.steady, ((), (), "zz"), NoWork),
            (tables.steady, ((), (), "z"), TooLong),
        ):
            with self.assertRaises(kind):
                look(yard, *arguments)

    def test_a_round_of_999_and_of_1001_ships(self):
        many = wheels((9, 9, 9, 9, 1), (9, 9, 9))
        self.assertEqual(tables.table(many, (), ())[:2], (0, 999))
        self.assertEqual(tables.table(many, ((0, "z", 1),), ())[:2], (1, 999))
        self.long(many, ((1, "z", 1),), ())
        rows = rows_of(many, (), (), 2100)
        self.assertEqual(tables.table(many, (), ())[2], tuple(rows[:999]))
        self.assertIs(tables.shows_table(many, (), (), (0, 999, tuple(rows[:999]))), True)
        self.assertIs(tables.shows_table(many, (), (), (0, 1998, tuple(rows[:1998]))), True)
        self.assertIs(tables.shows_table(many, (), (), (0, 998, tuple(rows[:998]))), False)
        more = wheels((9, 4), (9, 2), (7,))
        self.long(more, (), ())
        self.assertIs(tables.shows_table(more, (), (), (0, 1001, tuple(rows_of(more, (), (), 1001)))), True)

    def test_what_comes_late_to_the_last_ship_that_can(self):
        late = tables.table(SLOW, ((99, "build", 297),), ())
        self.assertEqual(late, (0, 1, ((0, 3),)))
        self.assertEqual(tables.table(SLOW, ((99, "build", 298),), ())[:2], (99, 1))
        self.assertEqual(tables.table(SLOW, (), ((99, "build", 1),))[:2], (100, 1))
        # Each dock has a day to spare with each ship: of what is late so much is made good by each second ship.
        self.assertEqual(tables.table(SLOW, (), ((99, "dock", 1),))[:2], (0, 1))
        self.assertEqual(tables.table(SLOW, (), ((99, "dock", 2),))[:2], (102, 1))
        self.assertEqual(tables.table(SLOW, (), ((99, "dock", 3),))[:2], (104, 1))

    def test_a_round_is_looked_at_whole(self):
        # The rings of b and d together wait for no other one in three of six ships: in the others a is ahead for long.
        needs = (("a", "a", 1, 0), ("a", "c", 0, 20), ("b", "b", 2, 0), ("b", "c", 0, -20), ("d", "d", 3, 0))
        yard = yard_of({"a": 9, "b": 20, "c": 0, "d": 30}, *needs, ("d", "c", 0, -6))
        delays = ((0, "b", 40), (1, "d", 20))
        rows = rows_of(yard, delays, (), 200)
        self.assertEqual(plain_far.least_round(rows, plain_far.steps(yard.works, yard.needs), 60), (24, 6))
        self.assertEqual(tables.table(yard, delays, ()), (24, 6, tuple(rows[:30])))
        self.assertIs(tables.shows_table(yard, delays, (), (24, 6, tuple(rows[:30]))), True)
        for first in range(24):
            value = (first, 6, tuple(rows[: first + 6]))
            self.assertIs(tables.shows_table(yard, delays, (), value), False)

    def test_great_days_and_numbers(self):
        yard = Yard((("a", 99),), (("a", "a", 9, 99),))
        self.assertEqual(tables.table(yard, (), ()), (0, 9, ((0,),) * 9))
        self.assertEqual(tables.day_of(yard, (), (), "a", FAR), FAR // 9 * 198)
        late = ((0, "a", 10**40),)
        self.assertEqual(tables.day_of(yard, late, (), "a", FAR - 1), 10**40 + FAR // 9 * 198)
        self.assertEqual(tables.ships_by(yard, late, (), "a", FAR), (FAR // 198 + 1) * 8)
        self.assertEqual(tables.table(yard, late, ())[:2], (0, 9))

    def test_against_ship_by_ship(self):
        told, long = 0, 0
        for yard, delays, changes in cases(71, 260):
            rows = rows_of(yard, delays, changes, 330)
            expected = plain_far.least_round(rows, plain_far.steps(yard.works, yard.needs), 110)
            if expected is None:
                long += 1
                continue
            first, turn = expected
            self.assertEqual(tables.table(yard, delays, changes), (first, turn, tuple(rows[: first + turn])))
            told += first > 0 and turn > 1
        self.assertGreater(told, 30)
        self.assertLess(long, 26)

    def test_the_table_is_the_one_of_the_earliest_days_and_paces(self):
        for yard, delays, changes in cases(72, 40):
            first, turn, lines = tables.table(yard, delays, changes)
            rows = days.earliest_days(yard, delays, changes, 1200)
            self.assertEqual(rows[: first + turn], lines)
            for place, (name, (top, bottom)) in enumerate(rings.paces(yard)):
                self.assertEqual(turn * top % bottom, 0)
                self.assertEqual(rings.beat(yard, name) % tables.steady(yard, delays, changes, name)[1], 0)
                for ship in range(first, 1201 - turn):
                    self.assertEqual(rows[ship + turn][place], rows[ship][place] + turn * top // bottom)

    def test_equal_calls(self):
        for yard, delays, changes in cases(73, 20):
            again = Yard(yard.works, yard.needs)
            self.assertEqual(tables.table(yard, delays, changes), tables.table(again, delays, changes))


class ShownTables(unittest.TestCase):
    def expected(self, rows, paces, value):
        """Whether any value is a TABLE, as far as these rows of days tell it."""
        if type(value) is not tuple or len(value) != 3 or any(type(own) is not int for own in value[:2]):
            return False
        first, turn, lines = value
        if first < 0 or turn < 1 or type(lines) is not tuple or len(lines) != first + turn:
            return False
        return plain.alike(lines, tuple(rows[: first + turn])) and plain_far.comes_again(rows, paces, first, turn)

    def test_what_table_tells(self):
        for yard, delays, changes in cases(74, 150):
            told = tables.table(yard, delays, changes)
            self.assertIs(tables.shows_table(yard, delays, changes, told), True)

    def test_longer_than_the_least(self):
        for yard, delays, changes in cases(75, 60):
            first, turn, _ = tables.table(yard, delays, changes)
            rows = tuple(rows_of(yard, delays, changes, first + 4 * turn + 9))
            for more in range(3):
                for times in (1, 2, 3):
                    many = first + more + times * turn
                    value = (first + more, times * turn, rows[:many])
                    self.assertIs(tables.shows_table(yard, delays, changes, value), True)
                    if turn > 1:
                        value = (first + more, times * turn + 1, rows[: many + 1])
                        self.assertIs(tables.shows_table(yard, delays, changes, value), False)
            if first:
                value = (first - 1, turn, rows[: first + turn - 1])
                self.assertIs(tables.shows_table(yard, delays, changes, value), False)

    def test_near_to_tables(self):
        seen = []
        for yard, delays, changes in cases(76, 40):
            told = tables.table(yard, delays, changes)
            if len(told[2]) > 6:
                continue
            rows = rows_of(yard, delays, changes, 300)
            paces = plain_far.steps(yard.works, yard.needs)
            for value in near(told):
                shown = tables.shows_table(yard, delays, changes, value)
                self.assertIs(shown, self.expected(rows, paces, value), value)
                seen.append(shown)
        self.assertGreater(seen.count(False), 1000)

    def test_however_long(self):
        late = ((0, "a", 3000),)
        rows = tuple(rows_of(RACING, late, (), 3001))
        with self.assertRaises(TooLong):
            tables.table(RACING, late, ())
        self.assertIs(tables.shows_table(RACING, late, (), (3000, 1, rows)), True)
        self.assertIs(tables.shows_table(RACING, late, (), (2999, 2, rows)), False)
        self.assertIs(tables.shows_table(RACING, late, (), (2999, 1, rows[:3000])), False)
        self.assertIs(tables.shows_table(RACING, late, (), (0, 3001, rows)), False)
        self.assertIs(tables.shows_table(RACING, late, (), (3000, 1, rows[:3000] + ((1, 1, 1),))), False)

    def test_what_is_told_only_by_ships_behind_it_is_looked_at(self):
        value = (0, 1, ((0, 0, 9),))
        self.assertIs(tables.shows_table(RACING, (), (), value), True)
        self.assertIs(tables.shows_table(RACING, ((99, "a", 892),), (), value), False)
        self.assertIs(tables.shows_table(RACING, ((99, "c", 1000),), (), value), False)
        self.assertIs(tables.shows_table(RACING, (), ((99, "a", 1),), value), False)
        self.assertIs(tables.shows_table(RACING, (), ((99, "c", 99),), value), True)
        self.assertIs(tables.shows_table(RACING, (), ((90, "b", 1),), value), False)
        far = yard_of({"a": 3, "b": 2}, ("a", "b", 9, 0))
        for first in range(12):
            value = (first, 1, tuple(rows_of(far, ((0, "a", 5),), (), first + 1)))
            self.assertIs(tables.shows_table(far, ((0, "a", 5),), (), value), first >= 10)

    def test_any_value(self):
        for value in ANY + ((0, 1, ()), (0, 0, ()), (-1, 2, ((0, 3),)), (0, 1, [(0, 3)]), (0, 1, ([0, 3],))):
            self.assertIs(tables.shows_table(SLOW, (), (), value), False)
        for value in ((False, 1, ((0, 3),)), (0, True, ((0, 3),)), (0, 1, ((False, 3),)), [0, 1, ((0, 3),)]):
            self.assertIs(tables.shows_table(SLOW, (), (), value), False)
        for value in ((0, 10**30, ()), (10**30, 1, ((0, 3),)), (0, 1, ((0,),)), (0, 1, ((0, 3, 0),))):
            self.assertIs(tables.shows_table(SLOW, (), (), value), False)
        self.assertIs(tables.shows_table(SLOW, (), (), (0, 1, ((0, 3),))), True)


class FarDays(unittest.TestCase):
    def test_days_of_ships_near_and_far(self):
        for yard, delays, changes in cases(77, 80):
            rows = rows_of(yard, delays, changes, 260)
            first, turn, _ = tables.table(yard, delays, changes)
            for place, name in enumerate(yard.names):
                top, bottom = rings.pace(yard, name)
                for ship in (0, 1, 2, 9, 77, 259):
                    self.assertEqual(tables.day_of(yard, delays, changes, name, ship), rows[ship][place])
                if first > 200:
                    continue
                for far in (FAR, FAR - 1, FAR // 7):
                    ship = first + (far - first) % turn
                    if ship < 260:
                        day = rows[ship][place] + (far - ship) * top // bottom
                        self.assertEqual(tables.day_of(yard, delays, changes, name, far), day)

    def test_ship_and_day_that_are_let(self):
        for ship in (-1, FAR + 1, True, "0", None):
            with self.assertRaises(BadShip) as caught:
                tables.day_of(SLOW, (), (), "dock", ship)
            self.assertIs(caught.exception.value, ship)
            with self.assertRaises(BadDay) as caught:
                tables.ships_by(SLOW, (), (), "dock", ship)
            self.assertIs(caught.exception.value, ship)
        self.assertEqual(tables.day_of(SLOW, (), (), "dock", FAR), 3 * FAR + 3)
        self.assertEqual(tables.ships_by(SLOW, (), (), "build", FAR), FAR // 3 + 1)

    def test_ships_by_against_counting(self):
        seen = []
        for yard, delays, changes in cases(78, 120):
            rows = rows_of(yard, delays, changes, 330)
            paces = plain_far.steps(yard.works, yard.needs)
            if plain_far.least_round(rows, paces, 110) is None:
                continue
            for place, name in enumerate(yard.names):
                for day in (0, 1, 7, 30):
                    told = tables.ships_by(yard, delays, changes, name, day)
                    many = len([row for row in rows if row[place] <= day])
                    endless = paces[place] == 0 and any(row[place] <= day for row in rows[-110:])
                    if not endless and any(row[place] <= day for row in rows[-110:]):
                        continue
                    self.assertEqual(told, None if endless else many)
                    seen.append(told)
        self.assertIn(None, seen)
        self.assertGreater(len(set(seen)), 15)

    def test_ships_by_and_day_of_agree_far_on(self):
        for yard, delays, changes in cases(79, 40):
            for name in yard.names:
                firsts, turn = tables.steady(yard, delays, changes, name)
                if rings.pace(yard, name) == (0, 1) or turn > 1:
                    continue
                ship = 10**15
                day = tables.day_of(yard, delays, changes, name, ship)
                many = tables.ships_by(yard, delays, changes, name, day)
                self.assertEqual(many, ship + 1)
                self.assertEqual(tables.ships_by(yard, delays, changes, name, day - 1), ship)
        late = ((0, "a", 50),)
        self.assertEqual(tables.ships_by(RACING, late, (), "c", 59), 1)
        self.assertEqual(tables.ships_by(RACING, late, (), "c", 10**17), 10**16)

    def test_steady_against_ship_by_ship(self):
        for yard, delays, changes in cases(80, 120):
            rows = rows_of(yard, delays, changes, 330)
            for place, name in enumerate(yard.names):
                column = [(row[place],) for row in rows]
                expected = plain_far.least_round(column, [plain.pace(yard.works, yard.needs, name)], 110)
                if expected is not None:
                    try:
                        self.assertEqual(tables.steady(yard, delays, changes, name), expected)
                    except TooLong:
                        self.assertIsNone(plain_far.least_round(rows, plain_far.steps(yard.works, yard.needs), 110))

    def test_the_plain_ways_agree(self):
        for yard, delays, changes in cases(81, 40):
            rows = rows_of(yard, delays, changes, 8)
            self.assertEqual(tuple(rows), plain.days(yard.works, yard.needs, delays, changes, 8))


if __name__ == "__main__":
    unittest.main()
