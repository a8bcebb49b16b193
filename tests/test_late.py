"""Section 8, and the guarantee (d) of section 3."""

import random
import unittest

from afloatintime import days, late, rings, tables
from afloatintime.errors import BadShip, TooLong
from afloatintime.yards import Yard
from tests import plain_far
from tests.samples import random_rows, random_yards
from tests.test_tables import FAR, QUICK, RACING, WHEELED, WHEELS, cases, rows_of, yard_of

# Building takes 4 days, and the one dock 5: a hull may be late without the dock being so.
LINE = yard_of(
    {"build": 4, "dock": 5, "float": 0},
    ("build", "build", 1, 0), ("build", "dock", 0, 0), ("dock", "dock", 1, 0), ("dock", "float", 0, 0),
)  # fmt: skip
TWO = Yard((("dock", 9), ("steel", 2)), (("dock", "dock", 2, 0), ("steel", "dock", 0, 0)))


def expected_moves(yard, delays, changes, many=400):
    """For each work (firsts, round), told by so many ships; None if they do not tell it."""
    early = rows_of(yard, (), (), many)
    later = rows_of(yard, delays, changes, many)
    paces = plain_far.steps(yard.works, yard.needs)
    if any(plain_far.least_round(rows, paces, 100) is None for rows in (early, later)):
        return None
    found = []
    for place in range(len(yard.names)):
        told = plain_far.told_of([two[place] - one[place] for one, two in zip(early, later)], 200, 0)
        found.append(told and told[:2])
    return None if None in found else found


def told_moves(yard, delays, changes):
    return [row[1:] for row in late.moved(yard, delays, changes)]


class Moved(unittest.TestCase):
    def test_nothing_late(self):
        for yard in (LINE, TWO, RACING, Yard((("a", 1),), ())):
            still = tuple((name, (), (0,)) for name in yard.names)
            self.assertEqual(late.moved(yard, (), ()), still)
            self.assertEqual(late.unmoved(yard, (), ()), yard.names)
            self.assertEqual(late.quiet_from(yard, (), ()), 0)
            for name in yard.names:
                self.assertEqual(late.last_moved(yard, (), (), name), "none")
                self.assertEqual(late.greatest_moved(yard, (), (), name), (0, 0))
                self.assertEqual(late.moved_at(yard, (), (), name, FAR), 0)

    def test_just_in_time_a_day_late_and_very_late(self):
        # Ship 2 is built from day 8 on, and goes into its dock on day 14: two days to spare.
        still = ("dock", (), (0,))
        self.assertEqual(late.moved(LINE, ((2, "build", 8),), ())[0], ("build", (), (0,)))
        self.assertEqual(late.moved(LINE, ((2, "build", 10),), ())[:2], (("build", (0, 0), (2,)), still))
        self.assertEqual(late.moved(LINE, ((2, "build", 11),), ())[1], ("dock", (0, 0), (1,)))
        self.assertEqual(late.moved(LINE, ((2, "build", 10**30),), ())[1], ("dock", (0, 0), (10**30 - 10,)))
        self.assertEqual(late.moved(LINE, ((2, "float", 19),), ())[2], ("float", (), (0,)))
        self.assertEqual(late.moved(LINE, ((2, "float", 20),), ())[2], ("float", (0, 0, 1), (0,)))

    def test_moved_for_ever_or_until_some_ship(self):
        self.assertEqual(late.last_moved(LINE, ((2, "float", 25),), (), "float"), 2)
        self.assertEqual(late.last_moved(LINE, ((2, "build", 11),), (), "float"), "always")
        self.assertEqual(late.last_moved(TWO, ((3, "steel", 15),), (), "dock"), "always")
        self.assertEqual(late.last_moved(TWO, ((3, "steel", 15),), (), "steel"), 3)
        # The faster ring of the hulls moves its own works for ever, those of the dock until the dock catches up.
        yard = yard_of({"a": 2, "b": 3}, ("a", "a", 1, 0), ("a", "b", 0, 0), ("b", "b", 1, 0))
        self.assertEqual(late.moved(yard, ((0, "a", 5),), ()), (("a", (), (5,)), ("b", (), (5,))))
        self.assertEqual(late.moved(yard, ((4, "a", 16),), ()), (("a", (0,) * 4, (8,)), ("b", (0,) * 4, (4,))))
        race = ((0, "a", 6),)
        self.assertEqual(late.moved(RACING, race, ())[2], ("c", (6, 5, 4, 3, 2, 1), (0,)))
        self.assertEqual(late.last_moved(RACING, race, (), "c"), 5)
        self.assertEqual(late.greatest_moved(RACING, race, (), "c"), (6, 0))
        self.assertIsNone(late.quiet_from(RACING, race, ()))

    def test_a_ring_of_several_ships_is_moved_each_so_manieth_ship(self):
        for back in range(1, 10):
            yard = yard_of({"a": 7}, ("a", "a", back, 0))
            firsts = (0,) * max(0, 5 - back)
            again = (0,) * (4 - len(firsts)) + (5,) + (0,) * (back - 5 + len(firsts))
            self.assertEqual(late.moved(yard, ((4, "a", 4 // back * 7 + 5),), ()), (("a", firsts, again),))
            self.assertEqual(late.moved_at(yard, ((4, "a", 4 // back * 7 + 5),), (), "a", 4 + back * 10**17), 5)
        every = tuple((ship, "a", 3) for ship in range(3))
        self.assertEqual(late.moved(yard_of({"a": 4}, ("a", "a", 3, 0)), every, ()), (("a", (), (3,)),))

    def test_works_without_rings(self):
        yard = yard_of({"a": 3, "b": 2}, ("a", "b", 2, 0))
        told = late.moved(yard, ((1, "a", 4),), ((3, "a", 6),))
        self.assertEqual(told, (("a", (0, 4), (0,)), ("b", (0, 0, 0, 4, 0, 6), (0,))))
        self.assertEqual(late.quiet_from(yard, ((1, "a", 4),), ((3, "a", 6),)), 6)
        self.assertEqual(late.greatest_moved(yard, ((1, "a", 4),), ((3, "a", 6),), "b"), (6, 5))

    def test_changes_that_move_nothing(self):
        self.assertEqual(late.unmoved(LINE, (), ((5, "float", 99),)), LINE.names)
        self.assertEqual(late.unmoved(LINE, (), ((5, "build", 1),)), ("dock", "float"))
        self.assertEqual(late.unmoved(LINE, (), ((0, "build", 1),)), ())
        self.assertEqual(late.moved(LINE, (), ((0, "build", 1),))[0], ("build", (0,), (1,)))

    def test_the_first_ship_of_the_greatest(self):
        self.assertEqual(late.greatest_moved(LINE, ((1, "float", 16), (3, "float", 26)), (), "float"), (2, 1))
        self.assertEqual(late.greatest_moved(LINE, ((1, "float", 16), (3, "float", 27)), (), "float"), (3, 3))
        self.assertEqual(late.greatest_moved(TWO, ((3, "steel", 15),), (), "dock"), (6, 3))
        self.assertEqual(late.greatest_moved(LINE, ((99, "build", 1000),), (), "float"), (505, 99))

    def test_against_ship_by_ship(self):
        kinds = set()
        for yard, delays, changes in cases(91, 260):
            expected = expected_moves(yard, delays, changes)
            if expected is None:
                continue
            self.assertEqual(told_moves(yard, delays, changes), expected)
            still = []
            for name, (firsts, again) in zip(yard.names, expected):
                numbers = list(firsts + again)
                last = "always" if any(again) else max([at for at, own in enumerate(firsts) if own], default="none")
                self.assertEqual(late.last_moved(yard, delays, changes, name), last)
                greatest = max(numbers)
                found = (greatest, numbers.index(greatest)) if greatest else (0, 0)
                self.assertEqual(late.greatest_moved(yard, delays, changes, name), found)
                if last == "none":
                    still.append(name)
                kinds.add((last if type(last) is str else "until", len(again) > 1, len(set(again)) > 1))
                for ship in (0, 3, 7, 50, FAR, FAR - 3):
                    near = ship if ship < 300 else len(firsts) + (ship - len(firsts)) % len(again)
                    day = plain_far.number_at((firsts, again, 0), near)
                    self.assertEqual(late.moved_at(yard, delays, changes, name, ship), day)
            self.assertEqual(late.unmoved(yard, delays, changes), tuple(still))
            lasts = [late.last_moved(yard, delays, changes, name) for name in yard.names]
            quiet = None if "always" in lasts else max(-1 if last == "none" else last for last in lasts) + 1
            self.assertEqual(late.quiet_from(yard, delays, changes), quiet)
        self.assertTrue({("none", False, False), ("until", False, False), ("always", False, False)} <= kinds)
        self.assertIn(("always", True, True), kinds)

    def test_what_comes_late_makes_nothing_sooner_and_delays_do_not_add_up(self):
        rng = random.Random(92)
        for yard in random_yards(93, 80):
            delays = random_rows(rng, yard, 7, 0, 60)
            for name, firsts, again in late.moved(yard, delays, ()):
                self.assertGreaterEqual(min(firsts + again), 0)
                for ship in (0, 2, 6, 9, 40, 10**9):
                    alone = [late.moved_at(yard, (delay,), (), name, ship) for delay in delays]
                    self.assertEqual(late.moved_at(yard, delays, (), name, ship), max(alone, default=0))

    def test_the_days_that_days_and_tables_tell(self):
        for yard, delays, changes in cases(94, 40):
            early = days.earliest_days(yard, (), (), 30)
            later = days.earliest_days(yard, delays, changes, 30)
            for place, name in enumerate(yard.names):
                for ship in range(31):
                    told = late.moved_at(yard, delays, changes, name, ship)
                    self.assertEqual(told, later[ship][place] - early[ship][place])
                far = tables.day_of(yard, delays, changes, name, FAR) - tables.day_of(yard, (), (), name, FAR)
                self.assertEqual(late.moved_at(yard, delays, changes, name, FAR), far)

    def test_what_is_made_good_and_what_is_not(self):
        # What is late for ever is moved by a ring that has the pace of the work, and goes on as that ring does.
        for yard, delays, changes in cases(95, 60):
            for name, _, again in late.moved(yard, delays, changes):
                if any(again):
                    self.assertIsNotNone(rings.ring(yard, name))
                self.assertEqual(rings.beat(yard, name) % len(again), 0)

    def test_rounds_of_both_together(self):
        each = tuple((0, name, 1) for name in "wxyz")
        self.assertEqual(late.moved(WHEELED, each, ()), tuple(
            (name, (), (1,) + (0,) * (back - 1)) for name, back in zip("wxyz", (8, 7, 5, 3))
        ))  # fmt: skip
        yard = Yard(QUICK.works, QUICK.needs)
        self.assertEqual(late.moved(yard, ((2, "dock", 9),), ())[1], ("dock", (0,), (0, 2)))
        self.assertEqual(late.moved(yard, ((2, "dock", 9), (3, "dock", 11)), ())[1], ("dock", (0, 0), (2,)))


class TooLongTables(unittest.TestCase):
    def each(self, yard, delays, changes):
        yield late.moved, (yard, delays, changes)
        yield late.unmoved, (yard, delays, changes)
        yield late.quiet_from, (yard, delays, changes)
        yield late.last_moved, (yard, delays, changes, yard.names[0])
        yield late.greatest_moved, (yard, delays, changes, yard.names[0])
        yield late.moved_at, (yard, delays, changes, yard.names[0], 0)

    def test_the_table_with_what_is_late(self):
        for look, arguments in self.each(RACING, ((0, "a", 1000),), ()):
            with self.assertRaises(TooLong) as caught:
                look(*arguments)
            self.assertIsNone(caught.exception.value)
        for look, arguments in self.each(RACING, ((0, "a", 999),), ()):
            look(*arguments)
        self.assertEqual(late.last_moved(RACING, ((0, "a", 999),), (), "c"), 998)

    def test_the_table_without_what_is_late(self):
        more = Yard(WHEELED.works + (("zz", 9),), tuple(sorted(WHEELS + (("zz", "zz", 9, 0),))))
        straight = tuple((ship, "zz", ship) for ship in range(9))
        self.assertEqual(tables.table(more, straight, ())[:2], (0, 840))
        for delays in ((), straight):
            for look, arguments in self.each(more, delays, ()):
                with self.assertRaises(TooLong) as caught:
                    look(*arguments)
                self.assertIsNone(caught.exception.value)

    def test_behind_all_other_errors(self):
        for ship in (-1, FAR + 1, True, None):
            with self.assertRaises(BadShip) as caught:
                late.moved_at(RACING, ((0, "a", 1000),), (), "a", ship)
            self.assertIs(caught.exception.value, ship)


if __name__ == "__main__":
    unittest.main()
