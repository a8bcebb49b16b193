"""Section 10, and the guarantee (f) of section 3."""

import random
import unittest
from fractions import Fraction
from math import ceil

from afloatintime import days, rings, tables, wishes
from afloatintime.errors import BadPace, BadRhythm, BadShip, BadWishes, NoWork, TooFast, TooLong
from afloatintime.yards import Yard
from tests import plain, plain_far
from tests.samples import ANY, near, random_yard, random_yards
from tests.test_rings import large_yards
from tests.test_tables import FAR, RACING, rows_of, wheels, yard_of

YARD = Yard((("build", 3), ("dock", 2)), (("build", "build", 1, 0), ("build", "dock", 0, 0), ("dock", "dock", 1, 0)))


def random_wishes(rng, yard, many=3, ships=4):
    """WISHES near to the earliest days, some that can be kept and some that cannot."""
    rows = rows_of(yard, (), (), ships)
    spots = [(ship, place) for ship in range(ships) for place in range(len(yard.names))]
    chosen = sorted(rng.sample(spots, rng.randint(1, min(many, len(spots)))))
    least = rng.choice((-9, -3, 0))
    return tuple((ship, yard.names[at], max(0, rows[ship][at] + rng.randint(least, 5))) for ship, at in chosen)


def small_cases(seed, many):
    rng = random.Random(seed)
    found = []
    while len(found) < many:
        yard = random_yard(rng, most_works=4, most_needs=6)
        found.append((yard, random_wishes(rng, yard)))
    return found


def random_rhythms(rng, yard):
    """RHYTHMS near to the pace of a work, and to the least day with which they can be kept."""
    name = rng.choice(yard.names)
    pace = plain.pace(yard.works, yard.needs, name)
    found = []
    for more in (0, Fraction(1, 7), Fraction(-1, 9), 1, Fraction(rng.randint(-40, 40), rng.randint(1, 30))):
        wished = max(Fraction(0), pace + more)
        first = plain_far.first_day(yard.works, yard.needs, name, wished.as_integer_ratio(), 60)
        for day in {0, first, max(0, first - 1), first + 1}:
            found.append((name, day, wished.as_integer_ratio()))
    return found


class LatestDays(unittest.TestCase):
    def test_what_no_chain_leads_from(self):
        self.assertIsNone(wishes.latest(YARD, ((2, "dock", 9),), "build", 3))
        self.assertIsNone(wishes.latest(YARD, ((2, "build", 9),), "dock", 2))
        self.assertIsNone(wishes.latest(YARD, ((2, "build", 9),), "dock", 0))
        self.assertIsNone(wishes.slack(YARD, ((2, "build", 9),), "dock", 0))
        for ship in (3, 99, 100, 2001, FAR, 10**40):
            self.assertIsNone(wishes.latest(YARD, ((2, "dock", 9),), "dock", ship))
            self.assertIsNone(wishes.slack(YARD, ((2, "dock", 9),), "dock", ship))

    def test_the_wished_work_itself(self):
        self.assertEqual(wishes.latest(YARD, ((2, "dock", 9),), "dock", 2), 9)
        self.assertEqual(wishes.slack(YARD, ((2, "dock", 8),), "dock", 2), -1)
        bare = yard_of({"a": 3})
        self.assertEqual(wishes.latest(bare, ((5, "a", 0),), "a", 5), 0)
        self.assertIsNone(wishes.latest(bare, ((5, "a", 0),), "a", 4))

    def test_of_several_the_least(self):
        both = ((1, "dock", 8), (2, "dock", 9))
        self.assertEqual([wishes.latest(YARD, both, "dock", ship) for ship in range(4)], [5, 7, 9, None])
        self.assertEqual([wishes.latest(YARD, both, "build", ship) for ship in range(3)], [0, 3, 6])
        self.assertEqual(wishes.latest(YARD, ((1, "dock", 5), (2, "dock", 99)), "build", 1), 2)

    def test_it_can_be_below_0(self):
        self.assertEqual(wishes.latest(YARD, ((99, "dock", 0),), "build", 0), -300)
        self.assertEqual(wishes.slack(YARD, ((99, "dock", 0),), "build", 99), -300)

    def test_greatest_numbers(self):
        far = tuple((ship, "dock", 10**30 + ship) for ship in range(76, 100))
        self.assertEqual(len(far), 24)
        self.assertEqual(wishes.latest(YARD, far, "dock", 76), min(10**30 + ship - 2 * (ship - 76) for ship in range(76, 100)))
        for rows in (((75, "dock", 5),) + far, (), ((100, "dock", 5),), ((5, "dock", -1),), list(far)):
            for look in (
                lambda: wishes.latest(YARD, rows, "dock", 0),
                lambda: wishes.slack(YARD, rows, "dock", 0),
                lambda: wishes.too_late(YARD, rows),
                lambda: wishes.shows_too_late(YARD, rows, None),
            ):
                with self.assertRaises(BadWishes) as caught:
                    look()
                self.assertIs(caught.exception.value, rows)

    def test_against_all_chains(self):
        seen = set()
        for yard, wished in small_cases(131, 150):
            rows = rows_of(yard, (), (), 6)
            for place, name in enumerate(yard.names):
                for ship in range(6):
                    expected = plain_far.latest(yard.works, yard.needs, wished, name, ship)
                    self.assertEqual(wishes.latest(yard, wished, name, ship), expected)
                    slack = None if expected is None else expected - rows[ship][place]
                    self.assertEqual(wishes.slack(yard, wished, name, ship), slack)
                    seen.add(slack)
        self.assertGreater(len(seen), 12)

    def test_a_plan_of_latest_days_keeps_all_and_a_day_more_does_not(self):
        for yard, wished in small_cases(132, 120):
            if wishes.too_late(yard, wished) is not None:
                continue
            for name in yard.names:
                for ship in range(4):
                    day = wishes.latest(yard, wished, name, ship)
                    if day is None:
                        late = rows_of(yard, ((ship, name, 10**6),), (), 4)
                    else:
                        late = rows_of(yard, ((ship, name, day),), (), 4)
                        later = rows_of(yard, ((ship, name, day + 1),), (), 4)
                        self.assertFalse(self.kept(yard, wished, later))
                    self.assertTrue(self.kept(yard, wished, late))

    def kept(self, yard, wished, rows):
        return all(rows[ship][yard.names.index(name)] <= day for ship, name, day in wished)

    def test_equal_calls(self):
        for yard, wished in small_cases(133, 20):
            again = Yard(yard.works, yard.needs)
            self.assertEqual(wishes.too_late(yard, wished), wishes.too_late(again, wished))


class TooLate(unittest.TestCase):
    def test_just_kept_and_just_not(self):
        for ship in range(100):
            kept = ((ship, "dock", 3 * ship + 3),)
            self.assertIsNone(wishes.too_late(YARD, kept))
            self.assertIs(wishes.shows_too_late(YARD, kept, None), True)
            barred = ((ship, "dock", 3 * ship + 2),)
            number, chain = wishes.too_late(YARD, barred)
            self.assertEqual(number, 0)
            self.assertTrue(plain_far.is_too_late(YARD.works, YARD.needs, barred, (number, chain)))
            self.assertIs(wishes.shows_too_late(YARD, barred, None), False)
            self.assertIs(wishes.shows_too_late(YARD, kept, (number, chain)), False)

    def test_either_a_plan_or_a_chain(self):
        kinds = []
        for yard, wished in small_cases(134, 400):
            rows = rows_of(yard, (), (), 4)
            barred = any(rows[ship][yard.names.index(name)] > day for ship, name, day in wished)
            value = wishes.too_late(yard, wished)
            self.assertIs(value is not None, barred)
            self.assertIs(wishes.shows_too_late(yard, wished, None), not barred)
            if barred:
                self.assertTrue(plain_far.is_too_late(yard.works, yard.needs, wished, value))
                self.assertIs(wishes.shows_too_late(yard, wished, value), True)
            kinds.append(barred)
        self.assertGreater(min(kinds.count(True), kinds.count(False)), 50)

    def test_all_short_chains(self):
        seen = []
        for yard, wished in small_cases(135, 250):
            chains = {numbers for name in yard.names for _, _, numbers in plain_far.chains(yard.needs, name, 3)}
            for chain in sorted(chains):
                for number in range(len(wished) + 1):
                    shown = wishes.shows_too_late(yard, wished, (number, chain))
                    self.assertIs(shown, plain_far.is_too_late(yard.works, yard.needs, wished, (number, chain)))
                    seen.append(shown)
        self.assertGreater(seen.count(True), 40)

    def test_near_to_papers(self):
        seen = []
        for yard, wished in small_cases(136, 120):
            for value in near(wishes.too_late(yard, wished) or (0, ())):
                shown = wishes.shows_too_late(yard, wished, value)
                if value is not None:
                    self.assertIs(shown, plain_far.is_too_late(yard.works, yard.needs, wished, value), value)
                    seen.append(shown)
        self.assertGreater(seen.count(False), 1000)
        self.assertIn(True, seen)

    def test_longer_chains_and_chains_of_ships_ahead(self):
        barred = ((9, "dock", 8),)
        self.assertIs(wishes.shows_too_late(YARD, barred, (0, (0, 0, 1))), True)
        self.assertIs(wishes.shows_too_late(YARD, barred, (0, (0,) * 9 + (1,))), True)
        self.assertIs(wishes.shows_too_late(YARD, barred, (0, (0,) * 10 + (1,))), False)
        self.assertIs(wishes.shows_too_late(YARD, barred, (0, (2,) * 5)), True)
        self.assertIs(wishes.shows_too_late(YARD, barred, (0, (2,) * 4)), False)
        self.assertIs(wishes.shows_too_late(YARD, barred, (0, (0,) * 4)), False)

    def test_any_value(self):
        barred = ((2, "dock", 8),)
        self.assertIs(wishes.shows_too_late(YARD, barred, (0, (0, 0, 1))), True)
        for value in ANY + ((False, (0, 0, 1)), (0, (False, 0, 1)), (0, [0, 0, 1]), [0, (0, 0, 1)], (1, (0, 0, 1))):
            self.assertIs(wishes.shows_too_late(YARD, barred, value), False, value)
        for value in ((-1, (0, 0, 1)), (0, (0, 0, -2)), (0, (0, 0, 3)), (0, (0, 0, 1), ()), ("0", (0, 0, 1)), (0, None)):
            self.assertIs(wishes.shows_too_late(YARD, barred, value), False, value)


class Rhythms(unittest.TestCase):
    def test_near_to_the_pace(self):
        for pace, kept in (((3, 1), True), ((299999999, 100000000), False), ((300000001, 100000000), True), ((0, 1), False)):
            self.assertIs(wishes.can_keep(YARD, ("dock", 3, pace)), kept)
            self.assertIs(wishes.can_keep(YARD, ("dock", 10**30, pace)), kept)
            self.assertIs(wishes.can_keep(YARD, ("dock", 2, pace)), False)
            self.assertEqual(wishes.first_day(YARD, "dock", pace), 3 if kept else None)
            self.assertEqual(wishes.first_day(YARD, "build", pace), 0 if kept else None)

    def test_without_rings(self):
        yard = yard_of({"a": 3, "b": 2}, ("a", "b", 2, 1))
        self.assertEqual([wishes.first_day(yard, "b", pace) for pace in ((0, 1), (1, 1), (3, 2), (5, 3), (9, 1))], [4, 2, 1, 1, 0])
        self.assertEqual(wishes.height(yard, ("b", 0, (5, 3)), "a"), (2, 3))
        self.assertEqual(wishes.height(yard, ("b", 0, (9, 1)), "a"), (-14, 1))
        self.assertEqual([wishes.latest_in(yard, ("b", 0, (5, 3)), "a", ship) for ship in (0, 1, 2, FAR)],
                         [-1, 1, 2, (5 * FAR - 2) // 3])  # fmt: skip
        self.assertIs(wishes.can_keep(yard, ("b", 4, (0, 1))), True)
        self.assertEqual(wishes.never(yard, ("b", 3, (0, 1))), ("ship", 2, (0,)))

    def test_a_ring_that_leads_nowhere_near(self):
        yard = yard_of({"a": 9, "b": 2}, ("a", "a", 1, 0), ("b", "a", 0, 0))
        self.assertEqual(wishes.first_day(yard, "b", (0, 1)), 0)
        self.assertIs(wishes.can_keep(yard, ("b", 0, (0, 1))), True)
        self.assertIsNone(wishes.height(yard, ("b", 0, (0, 1)), "a"))
        self.assertIsNone(wishes.latest_in(yard, ("b", 0, (0, 1)), "a", 7))
        self.assertIsNone(wishes.first_day(yard, "a", (0, 1)))

    def test_tables_may_be_too_long(self):
        yard = wheels((9, 4), (9, 2), (7,))
        with self.assertRaises(TooLong):
            tables.table(yard, (), ())
        for name in ("a0", "b1", "c0"):
            pace = rings.pace(yard, name)
            day = wishes.first_day(yard, name, pace)
            self.assertIs(wishes.can_keep(yard, (name, day, pace)), True)
            self.assertEqual(day, plain_far.first_day(yard.works, yard.needs, name, pace, 400))
        race = ("c", 0, (10, 1))
        self.assertEqual([wishes.height(RACING, race, name) for name in "abc"], [(9, 1), (9, 1), (0, 1)])

    def test_against_ship_by_ship_and_all_chains(self):
        rng = random.Random(141)
        kept = []
        for yard in random_yards(142, 150, most_works=4, most_needs=7):
            works, needs = yard.works, yard.needs
            for rhythm in random_rhythms(rng, yard):
                name, day, pace = rhythm
                slow = plain_far.is_slow_enough(works, needs, rhythm)
                first = plain_far.first_day(works, needs, name, pace, 60) if slow else None
                self.assertEqual(wishes.first_day(yard, name, pace), first)
                kept.append(slow and first <= day)
                self.assertIs(wishes.can_keep(yard, rhythm), kept[-1])
                for own in yard.names:
                    if not slow:
                        for look in (wishes.height, wishes.latest_in):
                            with self.assertRaises(TooFast) as caught:
                                look(yard, rhythm, own, *((None,) if look is wishes.latest_in else ()))
                            self.assertIs(caught.exception.value, rhythm)
                        continue
                    expected = plain_far.height(works, needs, rhythm, own)
                    told = wishes.height(yard, rhythm, own)
                    self.assertEqual(None if told is None else Fraction(*told), expected)
                    self.assertTrue(told is None or plain.is_fraction(told))
                    for ship in (0, 1, 5, FAR):
                        day_in = plain_far.latest_in(works, needs, rhythm, own, ship)
                        self.assertEqual(wishes.latest_in(yard, rhythm, own, ship), day_in)
        self.assertGreater(min(kept.count(True), kept.count(False)), 300)

    def test_latest_in_by_days_that_come_late(self):
        # What begins so late moves the RHYTHM's work to no later than it asks, in any ship; a day later it does.
        rng = random.Random(143)
        for yard in random_yards(144, 60, most_works=4, most_needs=7):
            for rhythm in random_rhythms(rng, yard):
                goal, day, pace = rhythm
                if not wishes.can_keep(yard, rhythm):
                    continue
                place = yard.names.index(goal)
                for name in yard.names:
                    ship = rng.choice((0, 2, 9))
                    told = wishes.latest_in(yard, rhythm, name, ship)
                    delays = ((ship, name, 0 if told is None else told),)
                    later = ((ship, name, 10**6 if told is None else told + 1),)
                    asked = [day + n * Fraction(*pace) for n in range(70)]
                    rows = rows_of(yard, delays, (), 70)
                    self.assertTrue(all(row[place] <= most for row, most in zip(rows, asked)))
                    rows = rows_of(yard, later, (), 70)
                    fits = all(row[place] <= most for row, most in zip(rows, asked))
                    self.assertIs(fits, told is None)

    def test_the_least_day_is_the_greatest_height(self):
        rng = random.Random(145)
        for yard in random_yards(146, 80):
            for rhythm in random_rhythms(rng, yard):
                name, _, pace = rhythm
                if plain_far.is_slow_enough(yard.works, yard.needs, rhythm):
                    found = [wishes.height(yard, rhythm, own) for own in yard.names]
                    greatest = max(Fraction(*own) for own in found if own is not None)
                    self.assertEqual(wishes.first_day(yard, name, pace), ceil(greatest))

    def test_large_yards(self):
        for yard in large_yards(147, 12):
            for name in yard.names[::3]:
                pace = rings.pace(yard, name)
                day = wishes.first_day(yard, name, pace)
                rows = days.earliest_days(yard, (), (), 400)
                place = yard.names.index(name)
                self.assertEqual(day, max(ceil(row[place] - n * Fraction(*pace)) for n, row in enumerate(rows)))
                self.assertIs(wishes.can_keep(yard, (name, day, pace)), True)
                self.assertIsNone(wishes.never(yard, (name, day, pace)))
                rhythms = [(name, day - 1, pace)] if day else []
                if pace != (0, 1):
                    faster = Fraction(*pace) - Fraction(1, 10**8)
                    rhythms.append((name, 10**20, faster.as_integer_ratio()))
                for rhythm in rhythms:
                    value = wishes.never(yard, rhythm)
                    self.assertTrue(plain_far.is_never(yard.works, yard.needs, rhythm, value))
                    self.assertIs(wishes.shows_never(yard, rhythm, value), True)

    def test_great_numbers(self):
        top, bottom = 10**40 + 1, 10**39
        self.assertEqual(wishes.first_day(YARD, "dock", (top, bottom)), 3)
        self.assertEqual(wishes.height(YARD, ("dock", 3, (top, bottom)), "build"), (3, 1))
        self.assertEqual(wishes.latest_in(YARD, ("dock", 10**30, (3, 1)), "build", 10**40), 10**30 + 3 * 10**40 - 3)
        self.assertIs(wishes.shows_never(YARD, ("dock", 10**30, (top, bottom)), ("ship", 10**40, (1,))), False)

    def test_errors_in_sequence(self):
        fast = ("dock", 3, (5, 2))
        for ship in (-1, True, "0", None):
            with self.assertRaises(BadShip) as caught:
                wishes.latest_in(YARD, ("dock", 3, (7, 2)), "dock", ship)
            self.assertIs(caught.exception.value, ship)
            with self.assertRaises(TooFast) as caught:
                wishes.latest_in(YARD, fast, "dock", ship)
            self.assertIs(caught.exception.value, fast)
        with self.assertRaises(NoWork):
            wishes.latest_in(YARD, fast, "zz", -1)
        with self.assertRaises(NoWork):
            wishes.height(YARD, fast, "zz")
        with self.assertRaises(BadRhythm):
            wishes.height(YARD, ("zz", 3, (5, 2)), "zz")
        for pace in ((6, 2), (-1, 1), (3, 0), (3, -1), (True, 1), (3, True), [3, 1], (3,), (3, 1, 1), 3, "3", None, (0, 2)):
            with self.assertRaises(BadPace) as caught:
                wishes.first_day(YARD, "dock", pace)
            self.assertIs(caught.exception.value, pace)
            rhythm = ("dock", 3, pace)
            for look in (wishes.can_keep, wishes.never):
                with self.assertRaises(BadRhythm) as caught:
                    look(YARD, rhythm)
                self.assertIs(caught.exception.value, rhythm)


class Never(unittest.TestCase):
    def test_just_kept_and_just_not(self):
        self.assertIsNone(wishes.never(YARD, ("dock", 3, (3, 1))))
        self.assertEqual(wishes.never(YARD, ("dock", 2, (3, 1)))[0], "ship")
        self.assertEqual(wishes.never(YARD, ("dock", 3, (299999999, 100000000)))[0], "ring")

    def test_either_a_plan_or_a_paper(self):
        rng = random.Random(151)
        kinds = set()
        for yard in random_yards(152, 150):
            for rhythm in random_rhythms(rng, yard):
                value = wishes.never(yard, rhythm)
                kept = wishes.can_keep(yard, rhythm)
                self.assertIs(value is None, kept)
                self.assertIs(wishes.shows_never(yard, rhythm, None), kept)
                self.assertIs(wishes.shows_never(yard, rhythm, value), True)
                if not kept:
                    self.assertTrue(plain_far.is_never(yard.works, yard.needs, rhythm, value))
                kinds.add(value and value[0])
        self.assertEqual(kinds, {None, "ship", "ring"})

    def test_all_short_papers(self):
        rng = random.Random(153)
        seen = {"ship": [], "ring": []}
        for yard in random_yards(154, 250, most_works=3, most_needs=5):
            chains = sorted({numbers for name in yard.names for _, _, numbers in plain_far.chains(yard.needs, name, 3)})
            for rhythm in random_rhythms(rng, yard)[::3]:
                for chain in chains[:150]:
                    papers = [("ship", ship, chain) for ship in range(4)]
                    papers += [("ring", chain, number) for number in range(len(chain) + 2)]
                    for paper in papers:
                        shown = wishes.shows_never(yard, rhythm, paper)
                        self.assertIs(shown, plain_far.is_never(yard.works, yard.needs, rhythm, paper), paper)
                        seen[paper[0]].append(shown)
        for told in seen.values():
            self.assertGreater(told.count(True), 100)

    def test_near_to_papers(self):
        rng = random.Random(155)
        seen = []
        for yard in random_yards(156, 40, most_works=4):
            for rhythm in random_rhythms(rng, yard)[::2]:
                for value in near(wishes.never(yard, rhythm) or ("ship", 3, ())):
                    if value is not None:
                        shown = wishes.shows_never(yard, rhythm, value)
                        self.assertIs(shown, plain_far.is_never(yard.works, yard.needs, rhythm, value), value)
                        seen.append(shown)
        self.assertGreater(seen.count(False), 1000)
        self.assertGreater(seen.count(True), 20)

    def test_rings_begun_elsewhere_and_gone_round_again(self):
        yard = yard_of({"a": 1, "b": 2, "c": 3}, ("a", "b", 0, 0), ("b", "a", 1, 0), ("b", "c", 2, 0))
        fast = ("c", 9, (2, 1))
        for value, shown in (
            (("ring", (0, 1, 0, 2), 2), True),
            (("ring", (0, 1, 0, 1, 0, 2), 4), True),
            (("ring", (1, 0, 2), 2), True),
            (("ring", (1, 0, 1, 0, 2), 2), True),
            (("ring", (1, 0), 2), False),
            (("ring", (0, 1, 0, 2), 1), False),
            (("ring", (0, 1, 0, 2), 3), False),
            (("ring", (2,), 1), False),
        ):
            self.assertIs(wishes.shows_never(yard, fast, value), shown, value)
        self.assertIs(wishes.shows_never(yard, ("c", 9, (3, 1)), ("ring", (1, 0, 2), 2)), False)

    def test_a_ship_further_on_than_the_chain_leads(self):
        yard = yard_of({"a": 50, "b": 2}, ("a", "b", 1, 0))
        rhythm = ("b", 10, (7, 2))
        for ship, shown in ((0, False), (1, True), (11, True), (12, False), (FAR, False)):
            self.assertIs(wishes.shows_never(yard, rhythm, ("ship", ship, (0,))), shown)
        self.assertIs(wishes.shows_never(yard, ("b", 10, (0, 1)), ("ship", FAR, (0,))), True)

    def test_any_value(self):
        fast = ("dock", 3, (5, 2))
        for value in ANY + (("ship", True, (0, 1)), ("ship", -1, (0, 1)), ("ship", 1, [0, 1]), ("ship", 1, (0, True))):
            self.assertIs(wishes.shows_never(YARD, fast, value), False, value)
        for value in (["ring", (0, 1), 1], ("ring", (0, 1), True), ("ring", (0, 1), 0), ("ring", (0, 1), 3), ("ring", (), 1)):
            self.assertIs(wishes.shows_never(YARD, fast, value), False, value)
        for value in (("ring", (0, 1), None), ("ring", [0, 1], 1), ("rings", (0, 1), 1), (None, (0, 1), 1), ("ring", (0, 1))):
            self.assertIs(wishes.shows_never(YARD, fast, value), False, value)
        for value in (("ring", 1, (0, 1)), ("ship", (0, 1), 1), (0, (0, 1), 1), (("ring",), (0, 1), 1), ("ring", (0, 0), 1)):
            self.assertIs(wishes.shows_never(YARD, fast, value), False, value)
        self.assertIs(wishes.shows_never(YARD, fast, ("ring", (0, 1), 1)), True)
        for value in ANY:
            self.assertIs(wishes.shows_never(YARD, ("dock", 3, (3, 1)), value), value is None)


if __name__ == "__main__":
    unittest.main()
