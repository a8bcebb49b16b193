"""Section 14, and the guarantee (h) of section 3."""

import random
import unittest

from afloatintime import days, docks
from afloatintime.errors import BadDay, BadDays, BadShip, NotTold, NoWork, NoYard, Taken
from afloatintime.keeping import Log
from afloatintime.yards import Yard, read_yard
from tests import plain_wide
from tests.samples import ANY, random_rows, random_yard, random_yards
from tests.test_tables import yard_of

YARD = Yard((("build", 3), ("dock", 5)), (("build", "build", 1, 0), ("build", "dock", 0, 0), ("dock", "dock", 2, 0)))


def tell(rng, yard, ships, logs):
    """One telling or unsaying at random, the same to all of these logs; the errors that they raise, or None."""
    name, ship = rng.choice(yard.names), rng.randrange(ships)
    deed = rng.choice(("began", "began", "lasted", "unsay"))
    number = rng.choice((0, rng.randint(0, 9), rng.randint(0, 60)))
    arguments = (name, ship) if deed == "unsay" else (name, ship, number)
    told = []
    for log in logs:
        try:
            told.append(getattr(log, deed)(*arguments))
        except (Taken, NotTold) as error:
            told.append((type(error), error.value))
    return deed, arguments, told


def tell_plainly(log, deed, arguments):
    """What a PlainLog has to tell of the same deed."""
    name, ship = arguments[:2]
    spot = (ship, name)
    if deed == "unsay":
        if spot not in log.begins and spot not in log.lasts:
            return (NotTold, spot)
        log.begins.pop(spot, None)
        log.lasts.pop(spot, None)
        return None
    rows = log.begins if deed == "began" else log.lasts
    if spot in rows:
        return (Taken, spot)
    rows[spot] = arguments[2]
    return None


class Tellings(unittest.TestCase):
    def test_nothing_told(self):
        log = Log(YARD)
        self.assertEqual((log.yard, log.told, log.work), (YARD, (), 0))
        self.assertEqual(log.clashes(), ())
        self.assertEqual(log.work, 0)
        rows = days.earliest_days(YARD, (), (), 9)
        self.assertEqual([log.day("dock", ship) for ship in range(10)], [row[1] for row in rows])
        self.assertEqual([log.done("dock", ship) for ship in range(10)], [row[1] + 5 for row in rows])

    def test_deeds_return_none(self):
        log = Log(YARD)
        self.assertIsNone(log.began("build", 0, 3))
        self.assertIsNone(log.lasted("build", 0, 3))
        self.assertIsNone(log.unsay("build", 0))

    def test_told(self):
        log = Log(YARD)
        log.lasted("dock", 10, 0)
        log.began("dock", 2, 0)
        log.began("build", 10, 7)
        log.began("dock", 10, 99999)
        log.lasted("build", 999, 999)
        told = ((2, "dock", 0, None), (10, "build", 7, None), (10, "dock", 99999, 0), (999, "build", None, 999))
        self.assertEqual(log.told, told)
        log.unsay("dock", 10)
        self.assertEqual(log.told, told[:2] + told[3:])
        self.assertIs(type(log.told), tuple)

    def test_a_told_begin_stands_however_early_or_late(self):
        log = Log(YARD)
        log.began("dock", 3, 0)
        self.assertEqual(log.day("dock", 3), 0)
        self.assertEqual(log.day("dock", 5), 18)
        log.unsay("dock", 3)
        log.began("dock", 3, 500)
        self.assertEqual([log.day("dock", ship) for ship in (2, 3, 4, 5, 6)], [9, 500, 15, 505, 21])
        self.assertEqual(log.done("dock", 3), 505)

    def test_lasts_in_place_of_those_of_the_yard(self):
        log = Log(YARD)
        log.lasted("build", 0, 0)
        self.assertEqual([log.day("dock", 0), log.day("build", 1), log.done("build", 0)], [0, 0, 0])
        log.lasted("build", 1, 999)
        self.assertEqual([log.day("dock", 1), log.day("build", 2), log.done("build", 1)], [999, 999, 999])
        log.lasted("dock", 1, 3)
        self.assertEqual([log.done("dock", 1), log.done("dock", 0)], [1002, 5])

    def test_a_last_as_in_the_yard_is_told_all_the_same(self):
        log = Log(YARD)
        log.lasted("build", 0, 3)
        self.assertEqual(log.told, ((0, "build", None, 3),))
        self.assertNotEqual(log, Log(YARD))
        with self.assertRaises(Taken):
            log.lasted("build", 0, 3)

    def test_no_day_is_below_0(self):
        yard = yard_of({"a": 5, "b": 1}, ("a", "b", 0, -4), ("b", "b", 1, 0))
        log = Log(yard)
        log.lasted("a", 0, 0)
        self.assertEqual([log.day("b", 0), log.day("b", 1), log.clashes()], [0, 1, ()])
        log.began("a", 1, 3)
        log.lasted("a", 1, 2)
        self.assertEqual([log.day("b", 1), log.day("b", 2)], [1, 2])
        log.began("b", 0, 0)
        self.assertEqual(log.clashes(), ())

    def test_clashes(self):
        log = Log(YARD)
        log.began("dock", 2, 8)
        self.assertEqual(log.clashes(), ((2, "dock", 9),))
        log.began("build", 2, 5)
        self.assertEqual(log.clashes(), ((2, "build", 6),))
        log.began("build", 0, 4)
        self.assertEqual(log.clashes(), ((2, "build", 10), (2, "dock", 12)))
        log.unsay("build", 2)
        self.assertEqual(log.clashes(), ((2, "dock", 13),))
        log.began("dock", 0, 0)
        log.began("build", 2, 9)
        self.assertEqual(log.clashes(), ((0, "dock", 7), (2, "build", 10), (2, "dock", 12)))
        log.began("dock", 1, 10)
        self.assertEqual(log.clashes(), ((0, "dock", 7), (2, "build", 10), (2, "dock", 12)))

    def test_clashes_ascend_by_ships_then_by_names(self):
        log = Log(YARD)
        for ship in (10, 9, 2):
            log.began("dock", ship, 0)
            log.began("build", ship, 0)
        found = log.clashes()
        self.assertEqual([row[:2] for row in found], [(ship, name) for ship in (2, 9, 10) for name in YARD.names])

    def test_greatest_numbers(self):
        log = Log(YARD)
        log.began("build", 999, 99999)
        log.lasted("build", 999, 999)
        self.assertEqual(log.day("dock", 999), 99999 + 999)
        self.assertEqual(log.done("dock", 999), 99999 + 999 + 5)
        self.assertEqual(log.clashes(), ())
        self.assertEqual(log.day("build", 998), 998 * 3)
        log.began("dock", 999, 0)
        self.assertEqual(log.clashes(), ((999, "dock", 100998),))

    def test_earliest_days_with_delays_and_changes(self):
        # What is told no earlier than it could be is as late as a DELAY makes it, and a longer last as a CHANGE.
        rng = random.Random("late")
        for yard in random_yards("late logs", 80):
            delays = random_rows(rng, yard, 7, 0, 60)
            changes = random_rows(rng, yard, 7, 1, 30)
            rows = days.earliest_days(yard, delays, changes, 15)
            log = Log(yard)
            lasts = dict(yard.works)
            late = [("began", name, ship, rows[ship][yard.names.index(name)]) for ship, name, _ in delays]
            late += [("lasted", name, ship, lasts[name] + more) for ship, name, more in changes]
            rng.shuffle(late)
            for deed, *arguments in late:
                getattr(log, deed)(*arguments)
            for ship in rng.sample(range(16), 5):
                self.assertEqual([log.day(name, ship) for name in yard.names], list(rows[ship]))
            self.assertEqual(log.clashes(), ())

    def test_a_yard_with_more_docks(self):
        log = Log(docks.with_more(YARD, (("slip", (2,)),), (7,)))
        self.assertEqual([log.day("dock", ship) for ship in (8, 9, 10)], [27, 30, 33])
        log.lasted("dock", 0, 100)
        self.assertEqual([log.day("dock", ship) for ship in (8, 9, 10)], [27, 103, 33])


class Errors(unittest.TestCase):
    def refused(self, error, value, look):
        with self.assertRaises(error) as caught:
            look()
        self.assertIs(type(caught.exception), error)
        self.assertEqual(repr(caught.exception.value), repr(value))

    def test_taken_and_not_told(self):
        log = Log(YARD)
        self.refused(NotTold, (3, "dock"), lambda: log.unsay("dock", 3))
        log.began("dock", 3, 40)
        self.refused(Taken, (3, "dock"), lambda: log.began("dock", 3, 40))
        self.refused(Taken, (3, "dock"), lambda: log.began("dock", 3, 41))
        self.refused(NotTold, (3, "build"), lambda: log.unsay("build", 3))
        log.lasted("dock", 3, 0)
        self.refused(Taken, (3, "dock"), lambda: log.lasted("dock", 3, 1))
        self.assertEqual(log.told, ((3, "dock", 40, 0),))
        log.unsay("dock", 3)
        self.refused(NotTold, (3, "dock"), lambda: log.unsay("dock", 3))
        log.lasted("dock", 3, 6)
        log.unsay("dock", 3)
        self.assertEqual(log, Log(YARD))

    def test_in_sequence(self):
        log = Log(YARD)
        log.began("dock", 0, 5)
        log.lasted("dock", 0, 5)
        for name, ship, number in ((None, -1, -1), ("zz", 1000, 100000), ("Dock", True, True), (["dock"], 0, 5)):
            for look in (log.began, log.lasted):
                self.refused(NoWork, name, lambda: look(name, ship, number))
            for look in (log.unsay, log.day, log.done):
                self.refused(NoWork, name, lambda: look(name, ship))
        for ship in (-1, 1000, True, False, None, "0", (0,), 10**8):
            for look in (log.began, log.lasted):
                self.refused(BadShip, ship, lambda: look("dock", ship, -1))
            for look in (log.unsay, log.day, log.done):
                self.refused(BadShip, ship, lambda: look("dock", ship))
        for number in (-1, 100000, True, False, None, "5", (5,), 10**8):
            self.refused(BadDay, number, lambda: log.began("dock", 0, number))
        for number in (-1, 1000, True, False, None, "5", (5,), 10**8):
            self.refused(BadDays, number, lambda: log.lasted("dock", 0, number))
        self.assertEqual((log.told, log.work), (((0, "dock", 5, 5),), 0))

    def test_values_of_every_kind(self):
        log = Log(YARD)
        log.began("dock", 2, 9)
        log.day("dock", 3)
        before = log.copy()
        for value in ANY:
            if not isinstance(value, Yard):
                self.refused(NoYard, value, lambda: Log(value))
            self.refused(NoWork, value, lambda: log.day(value, 0))
            if not (type(value) is int and value >= 0):
                self.refused(BadShip, value, lambda: log.clashes() and None or log.done("dock", value))
                self.refused(BadDay, value, lambda: log.began("dock", 2, value))
                self.refused(BadDays, value, lambda: log.lasted("dock", 2, value))
        self.assertEqual((log, log.told, log.work), (before, before.told, before.work))


class Copies(unittest.TestCase):
    def test_independent(self):
        log = Log(YARD)
        log.began("dock", 1, 9)
        log.day("dock", 3)
        other = log.copy()
        self.assertIs(type(other), Log)
        self.assertEqual((other, other.told, other.work, other.yard), (log, log.told, log.work, log.yard))
        other.lasted("dock", 1, 9)
        other.day("dock", 5)
        self.assertEqual((log.told, log.work), (((1, "dock", 9, None),), 4))
        self.assertNotEqual(other, log)
        log.unsay("dock", 1)
        log.day("build", 0)
        self.assertEqual(other.told, ((1, "dock", 9, 9),))
        self.assertEqual(other.day("dock", 3), 18)

    def test_a_copy_has_kept_the_same(self):
        log = Log(YARD)
        log.day("dock", 5)
        other = log.copy()
        self.assertEqual(other.work, 6)
        other.day("dock", 5)
        self.assertEqual(other.work, 6)
        other.day("dock", 6)
        self.assertEqual((other.work, log.work), (7, 6))
        log.day("dock", 5)
        self.assertEqual((other.work, log.work), (7, 6))
        log.day("dock", 6)
        self.assertEqual(log.work, 7)

    def test_equality(self):
        log = Log(YARD)
        other = Log(read_yard(YARD.text))
        self.assertTrue(log == other and not log != other)
        log.day("dock", 5)
        self.assertEqual(log, other)
        log.began("dock", 5, 1)
        self.assertFalse(log == other)
        self.assertTrue(log != other)
        other.began("dock", 5, 1)
        self.assertEqual(log, other)
        other.lasted("dock", 5, 1)
        self.assertNotEqual(log, other)
        self.assertNotEqual(Log(YARD), Log(Yard(YARD.works, YARD.needs[:2])))
        for value in ANY + (YARD, YARD.text):
            self.assertIs(Log(YARD) == value, False)
            self.assertIs(value == Log(YARD), False)
            self.assertIs(Log(YARD) != value, True)

    def test_operators_raise_type_errors(self):
        for look in (lambda log: log < log, lambda log: log + log, lambda log: log - 1, len, lambda log: log[0]):
            with self.assertRaises(TypeError):
                look(Log(YARD))


class Steps(unittest.TestCase):
    def test_without_needs_all_ships_of_which_the_same_is_told_are_one_step(self):
        log = Log(yard_of({"a": 1, "b": 1}))
        log.day("a", 999)
        self.assertEqual(log.work, 1)
        log.began("a", 500, 7)
        log.day("a", 499)
        self.assertEqual(log.work, 1)
        log.day("a", 500)
        self.assertEqual(log.work, 2)
        log.began("a", 600, 7)
        self.assertEqual(log.clashes(), ())
        self.assertEqual(log.work, 2)
        log.lasted("a", 601, 7)
        log.clashes()
        self.assertEqual(log.work, 3)

    def test_needs_within_a_ship_lead_back_no_ship(self):
        log = Log(yard_of({"a": 1, "b": 1}, ("a", "b", 0, 0)))
        log.lasted("a", 3, 7)
        log.day("a", 9)
        self.assertEqual(log.work, 2)

    def test_as_many_ships_ahead_as_the_greatest_back_and_fewer_at_first(self):
        for back in range(1, 10):
            log = Log(yard_of({"a": 0, "b": 1}, ("a", "b", back, 0)))
            log.day("a", 30)
            # All days are 0: only how many ships are ahead tells one step from another.
            self.assertEqual(log.work, back + 1)
            log.lasted("a", 10, 0)
            log.day("a", 30)
            self.assertEqual(log.work, 2 * (back + 1))
            log.unsay("a", 10)
            log.began("a", 10, 0)
            log.day("a", 30)
            self.assertEqual(log.work, 2 * (back + 1) + 1)

    def test_which_steps_each_ask_uses(self):
        log = Log(YARD)
        log.done("build", 4)
        self.assertEqual(log.work, 5)
        log.began("dock", 2, 9)
        self.assertEqual(log.clashes(), ())
        self.assertEqual(log.work, 6)
        # The day is the one that is reckoned anyhow: so the ships behind it have the same steps as ahead.
        log.day("build", 4)
        self.assertEqual(log.work, 6)
        log.lasted("dock", 2, 5)
        log.day("build", 2)
        self.assertEqual(log.work, 7)
        log.day("build", 3)
        self.assertEqual(log.work, 8)
        log.told, log.yard, log == log.copy()
        self.assertEqual(log.work, 8)

    def test_what_raises_uses_none(self):
        log = Log(YARD)
        for arguments in (("zz", 5), ("dock", 1000), ("dock", -1), ("dock", True)):
            for look in (log.day, log.done, log.unsay):
                with self.assertRaises((NoWork, BadShip)):
                    look(*arguments)
        self.assertEqual(log.work, 0)

    def test_steps_that_came_before_are_kept(self):
        log = Log(YARD)
        for _ in range(3):
            log.began("build", 0, 4)
            log.day("dock", 6)
            log.unsay("build", 0)
            log.day("dock", 6)
            self.assertEqual(log.work, 14)

    def test_deeds_at_random_against_a_plain_log(self):
        rng = random.Random("logs")
        refused = clashed = 0
        for _ in range(70):
            yard = random_yard(rng, most_works=4, most_needs=7)
            log, other = Log(yard), plain_wide.PlainLog(yard.works, yard.needs)
            ships = rng.choice((2, 4, 7))
            for _ in range(25):
                deed, arguments, told = tell(rng, yard, ships, (log,))
                self.assertEqual(told, [tell_plainly(other, deed, arguments)])
                refused += told != [None]
                self.assertEqual(log.told, other.told())
                name, ship = rng.choice(yard.names), rng.randrange(ships + 2)
                ask = rng.choice(("day", "done", "clashes", ""))
                if ask == "clashes":
                    self.assertEqual(log.clashes(), other.clashes())
                    clashed += bool(log.clashes())
                elif ask:
                    self.assertEqual(getattr(log, ask)(name, ship), getattr(other, ask)(name, ship))
                self.assertEqual(log.work, len(other.used))
                if rng.random() < 0.1:
                    log = log.copy()
        self.assertGreater(min(refused, clashed), 100)

    def test_tellings_in_any_sequence_leave_the_same(self):
        rng = random.Random("sequence")
        for yard in random_yards("sequence", 40):
            spots = [(name, ship) for name in yard.names for ship in range(5)]
            told = [("began", *spot, rng.randint(0, 40)) for spot in rng.sample(spots, min(4, len(spots)))]
            told += [("lasted", *spot, rng.randint(0, 20)) for spot in rng.sample(spots, min(4, len(spots)))]
            logs = []
            for _ in range(3):
                rng.shuffle(told)
                log = Log(yard)
                for deed, *arguments in told:
                    getattr(log, deed)(*arguments)
                    # What is told in between, wrong, and unsaid again leaves nothing.
                    name, ship = rng.choice(spots)
                    if not any(row[1:3] == (name, ship) for row in told):
                        log.began(name, ship, rng.randint(0, 40))
                        log.clashes()
                        log.unsay(name, ship)
                logs.append(log)
            for log in logs:
                self.assertEqual((log, log.told), (logs[0], logs[0].told))
                self.assertEqual(log.clashes(), logs[0].clashes())
                for name in yard.names:
                    self.assertEqual([log.day(name, ship) for ship in range(8)], [logs[0].day(name, ship) for ship in range(8)])


if __name__ == "__main__":
    unittest.main()
