"""Section 15."""

import random
import unittest

from afloatintime import days, quickening
from afloatintime.errors import BadDay, BadNumber, BadShips, NoYard
from afloatintime.pictures import chart
from afloatintime.yards import Yard, read_yard
from tests import plain_live
from tests.samples import ANY, random_yards
from tests.test_tables import yard_of

YARD = Yard((("hull", 3), ("launch", 0)), (("hull", "hull", 1, 0), ("hull", "launch", 0, 1)))


class Charts(unittest.TestCase):
    def test_days_from_the_begin_to_the_day_ahead_of_the_end(self):
        self.assertEqual(chart(YARD, (1,), 2, 4), "hull     .###\nlaunch   ....")
        self.assertEqual(chart(YARD, (1,), 3, 3), "hull     ###\nlaunch   ...")
        self.assertEqual(chart(YARD, (1,), 5, 3), "hull     #..\nlaunch   ..|")
        self.assertEqual(chart(YARD, (1,), 6, 1), "hull     .\nlaunch   .")
        self.assertEqual(chart(YARD, (1,), 7, 1), "hull     .\nlaunch   |")
        self.assertEqual(chart(YARD, (1,), 8, 1), "hull     .\nlaunch   .")

    def test_works_of_no_days(self):
        yard = yard_of({"a": 0, "b": 0, "c": 1}, ("a", "b", 0, 2))
        self.assertEqual(chart(yard, (0, 9), 0, 4).split("\n"), ["a        |...", "b        ..|.", "c        #..."] * 2)

    def test_the_longest_and_the_shortest_name(self):
        yard = yard_of({"abcdefgh": 1, "i": 1})
        self.assertEqual(chart(yard, (0,), 0, 1), "abcdefgh #\ni        #")

    def test_days_far_on(self):
        self.assertEqual(chart(YARD, (999,), 2997, 5), "hull     ###..\nlaunch   ....|")
        self.assertEqual(chart(YARD, (999,), 99999, 100).split("\n")[0], "hull     " + "." * 100)
        far = yard_of({"a": 99}, ("a", "a", 1, 2))
        self.assertEqual(chart(far, (990, 991), 99990, 100).split("\n")[0], "a        " + "#" * 99 + ".")

    def test_ships_numbers_and_days_that_are_let(self):
        for ships in ((0,), (999,), (0, 1, 2, 3, 4, 5), (0, 999)):
            self.assertEqual(len(chart(YARD, ships, 0, 1).split("\n")), 2 * len(ships))
        for ships in (
            (),
            (-1,),
            (1000,),
            (True,),
            (0, True),
            ("0",),
            (1, 0),
            (0, 0),
            (0, None),
            [0],
            {0: 1},
            (0, 1, 2, 3, 4, 5, 6),
            0,
            ((0,),),
        ):
            with self.assertRaises(BadShips) as caught:
                chart(YARD, ships, -1, 0)
            self.assertIs(caught.exception.value, ships)
        for first in (-1, 100000, True, False, None, "0", (0,)):
            with self.assertRaises(BadDay) as caught:
                chart(YARD, (0,), first, 0)
            self.assertIs(caught.exception.value, first)
        for many in (-1, 0, 101, True, None, "1", (1,)):
            with self.assertRaises(BadNumber) as caught:
                chart(YARD, (0,), 99999, many)
            self.assertIs(caught.exception.value, many)
        for many in (1, 100):
            self.assertEqual(len(chart(YARD, (0,), 0, many).split("\n")[1]), 9 + many)

    def test_values_of_every_kind(self):
        for value in ANY:
            if not isinstance(value, Yard):
                with self.assertRaises(NoYard) as caught:
                    chart(value, value, value, value)
                self.assertIs(caught.exception.value, value)

    def test_against_signs_made_one_by_one(self):
        rng = random.Random("charts")
        for yard in random_yards("charts", 80):
            ships = tuple(sorted(rng.sample(range(12), rng.randint(1, 6))))
            first, many = rng.choice((0, rng.randint(0, 40))), rng.randint(1, 40)
            self.assertEqual(
                chart(yard, ships, first, many), plain_live.chart(yard.works, yard.needs, ships, first, many)
            )

    def test_charts_and_earliest_days_agree(self):
        for yard in random_yards("chart days", 40):
            rows = days.earliest_days(yard, (), (), 5)
            lines = chart(yard, (0, 1, 2, 3, 4, 5), 0, 100).split("\n")
            for at, line in enumerate(lines):
                ship, place = divmod(at, len(yard.names))
                name, last = yard.works[place]
                begin = rows[ship][place]
                self.assertEqual(line[:9], name.ljust(9))
                if begin + last <= 100 and begin < 100:
                    self.assertEqual(line[9:], ("." * begin + ("#" * last or "|")).ljust(100, "."))

    def test_a_quickened_yard(self):
        quick = quickening.quickened(YARD, (("hull", 1, 0),), (("hull", 3),))
        self.assertEqual(chart(quick, (0, 7), 0, 3), "hull     |..\nlaunch   .|.\nhull     |..\nlaunch   .|.")

    def test_equal_calls(self):
        self.assertEqual(chart(YARD, (0, 3), 4, 30), chart(read_yard(YARD.text), (0, 3), 4, 30))


if __name__ == "__main__":
    unittest.main()
