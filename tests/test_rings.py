"""Section 6, and the guarantee (b) of section 3."""

import random
import unittest
from fractions import Fraction
from itertools import product

from afloatintime import rings
from afloatintime.yards import Yard
from tests import plain
from tests.samples import ANY, near, needs_for, random_yards

SLOW = Yard((("build", 3), ("dock", 5)), (("build", "build", 1, 0), ("build", "dock", 0, 0), ("dock", "dock", 2, 0)))


def yard_of(lasts, *needs):
    return Yard(tuple(sorted(lasts.items())), tuple(sorted(needs)))


def large_yards(seed, many):
    """YARDS of 12 WORKS and about 40 NEEDS."""
    rng = random.Random(seed)
    found = []
    for _ in range(many):
        works = tuple((f"w{at:02}", rng.randint(0, 99)) for at in range(12))
        lasts = dict(works)
        needs = set()
        while len(needs) < 40:
            before, behind = sorted(rng.choices(works, k=2)) if rng.random() < 0.5 else rng.choices(works, k=2)
            back = rng.randint(0, 3) if before[0] < behind[0] else rng.randint(1, 9)
            needs.add((before[0], behind[0], back, rng.randint(-lasts[before[0]], 99)))
        found.append(Yard(works, tuple(sorted(needs))))
    return found


class Paces(unittest.TestCase):
    def test_no_ring(self):
        yard = yard_of({"a": 3, "b": 2}, ("a", "b", 0, 0), ("a", "b", 5, 9))
        self.assertEqual(rings.paces(yard), (("a", (0, 1)), ("b", (0, 1))))
        self.assertEqual(rings.pace_of_all(yard), (0, 1))
        self.assertIsNone(rings.ring(yard, "b"))
        self.assertEqual(rings.tight(yard, "b"), ())
        self.assertEqual(rings.beat(yard, "b"), 1)
        self.assertEqual(rings.pace(yard_of({"a": 7}), "a"), (0, 1))

    def test_a_ring_of_no_days(self):
        yard = yard_of({"a": 3, "b": 0}, ("a", "a", 2, -3), ("a", "b", 0, -3))
        self.assertEqual(rings.paces(yard), (("a", (0, 1)), ("b", (0, 1))))
        self.assertEqual(rings.ring(yard, "b"), (("a", "a", 2, -3),))
        self.assertEqual(rings.tight(yard, "b"), (("a", "a", 2, -3),))
        self.assertEqual(rings.beat(yard, "b"), 2)
        self.assertIs(rings.shows_ring(yard, "b", None), False)

    def test_only_rings_that_lead_to_the_work(self):
        yard = yard_of({"a": 2, "b": 9}, ("a", "a", 1, 0), ("a", "b", 0, 0), ("b", "b", 1, 0))
        self.assertEqual(rings.paces(yard), (("a", (2, 1)), ("b", (9, 1))))
        self.assertEqual(rings.ring(yard, "a"), (("a", "a", 1, 0),))
        self.assertIs(rings.shows_ring(yard, "a", (("b", "b", 1, 0),)), False)
        self.assertEqual([name for name, _ in rings.heights(yard, "a")], ["a"])

    def test_a_ring_ahead_of_the_work_binds_it(self):
        yard = yard_of({"a": 9, "b": 1, "c": 0}, ("a", "a", 2, 0), ("a", "b", 3, 0), ("b", "b", 1, 0), ("b", "c", 0, 0))
        self.assertEqual(rings.paces(yard), (("a", (9, 2)), ("b", (9, 2)), ("c", (9, 2))))
        self.assertEqual(rings.pace_of_all(yard), (9, 2))

    def test_paces_are_brought_down(self):
        for days, back, expected in ((6, 4, (3, 2)), (8, 4, (2, 1)), (0, 9, (0, 1)), (99, 9, (11, 1)), (7, 5, (7, 5))):
            self.assertEqual(rings.pace(yard_of({"a": days}, ("a", "a", back, 0)), "a"), expected)

    def test_greatest_pace(self):
        yard = yard_of({"a": 99, "b": 0}, ("a", "a", 1, 99), ("b", "b", 9, 1))
        self.assertEqual(rings.paces(yard), (("a", (198, 1)), ("b", (1, 9))))
        self.assertEqual(rings.pace_of_all(yard), (198, 1))

    def test_paces_that_are_near_to_each_other(self):
        yard = yard_of(
            {"a": 20, "b": 9, "c": 7},
            ("a", "a", 9, 0), ("a", "b", 0, 0), ("b", "b", 4, 0), ("b", "c", 0, 0), ("c", "c", 3, 0),
        )  # fmt: skip
        self.assertEqual(rings.paces(yard), (("a", (20, 9)), ("b", (9, 4)), ("c", (7, 3))))

    def test_rings_with_the_same_pace(self):
        yard = yard_of({"a": 4, "b": 6, "c": 1}, ("a", "a", 2, 0), ("b", "b", 3, 0), ("a", "c", 0, 0), ("b", "c", 0, 0))
        self.assertEqual(rings.pace(yard, "c"), (2, 1))
        self.assertEqual(rings.tight(yard, "c"), (("a", "a", 2, 0), ("b", "b", 3, 0)))
        self.assertEqual(rings.beat(yard, "c"), 6)
        self.assertEqual((rings.beat(yard, "a"), rings.beat(yard, "b")), (2, 3))
        for need in rings.tight(yard, "c"):
            self.assertIs(rings.shows_ring(yard, "c", (need,)), True)
        self.assertIs(rings.shows_ring(yard, "c", rings.tight(yard, "c")), False)

    def test_beat_of_one_lot_divides_and_of_several_lots_is_multiplied(self):
        one = yard_of({"a": 4}, ("a", "a", 2, 0), ("a", "a", 4, 4), ("a", "a", 6, 8))
        self.assertEqual((rings.beat(one, "a"), len(rings.tight(one, "a"))), (2, 3))
        odd = yard_of({"a": 4}, ("a", "a", 2, 0), ("a", "a", 3, 2))
        self.assertEqual(rings.beat(odd, "a"), 1)
        loop = yard_of({"a": 1, "b": 1}, ("a", "b", 1, 0), ("b", "a", 3, 2), ("b", "a", 1, 0))
        self.assertEqual((rings.pace(loop, "a"), rings.beat(loop, "b")), ((1, 1), 2))
        lots = yard_of(
            {"a": 4, "b": 6, "c": 8, "d": 0},
            ("a", "a", 4, 0), ("b", "b", 6, 0), ("c", "c", 8, 0),
            ("a", "d", 0, 0), ("b", "d", 0, 0), ("c", "d", 0, 0),
        )  # fmt: skip
        self.assertEqual(rings.beat(lots, "d"), 24)
        nine = yard_of({"a": 9, "b": 8, "c": 7, "d": 5, "z": 0}, *[(n, n, b, 0) for n, b in zip("abcd", (9, 8, 7, 5))],
                       *[(n, "z", 0, 0) for n in "abcd"])  # fmt: skip
        self.assertEqual(rings.beat(nine, "z"), 2520)

    def test_a_need_between_lots_is_not_tight(self):
        yard = yard_of({"a": 2, "b": 2}, ("a", "a", 1, 0), ("a", "b", 0, 0), ("b", "b", 1, 0))
        self.assertEqual(rings.tight(yard, "b"), (("a", "a", 1, 0), ("b", "b", 1, 0)))
        self.assertEqual(rings.beat(yard, "b"), 1)

    def test_against_all_rings(self):
        several = 0
        for yard in random_yards(61, 300) + random_yards(62, 60, most_works=6, most_needs=14):
            works, needs = yard.works, yard.needs
            expected = [(name, plain.pace(works, needs, name)) for name in yard.names]
            told = rings.paces(yard)
            self.assertEqual([(name, Fraction(*pace)) for name, pace in told], expected)
            self.assertTrue(all(plain.is_fraction(pace) for _, pace in told))
            self.assertEqual(Fraction(*rings.pace_of_all(yard)), max(pace for _, pace in expected))
            for name in yard.names:
                self.assertEqual(rings.pace(yard, name), dict(told)[name])
                self.assertEqual(rings.tight(yard, name), plain.tight(works, needs, name))
                self.assertEqual(rings.beat(yard, name), plain.beat(works, needs, name))
                several += len(plain.slowest_rings(works, needs, name)) > 1
        self.assertGreater(several, 50)

    def test_yards_with_many_rings_of_the_same_pace(self):
        rng = random.Random(63)
        beats = set()
        for _ in range(150):
            works = tuple((name, 1) for name in "abcd")
            chosen = {(b, c, rng.randint(1, 4)) for b, c in rng.choices(list(product("abcd", repeat=2)), k=8)}
            needs = tuple(sorted((before, behind, back, back - 1) for before, behind, back in chosen))
            yard = Yard(works, needs)
            for name in yard.names:
                self.assertEqual(rings.tight(yard, name), plain.tight(works, needs, name))
                self.assertEqual(rings.beat(yard, name), plain.beat(works, needs, name))
                beats.add(rings.beat(yard, name))
        self.assertTrue({1, 2, 3, 4, 6} <= beats, beats)

    def test_no_ring_that_goes_round_otherwise_has_more(self):
        for yard in random_yards(64, 60, most_works=3, most_needs=5):
            for name in yard.names:
                names = plain.leading(yard.needs, name)
                most = plain.pace(yard.works, yard.needs, name)
                walks = [walk for walk in plain.closed_walks(yard.needs, 5) if walk[0][0] in names]
                told = {need for walk in walks if plain.ratio(yard.works, walk) == most for need in walk}
                self.assertEqual(set(rings.tight(yard, name)), told)
                greatest = max([plain.ratio(yard.works, walk) for walk in walks], default=0)
                self.assertEqual(Fraction(*rings.pace(yard, name)), greatest)

    def test_large_yards(self):
        for yard in large_yards(65, 25):
            lasts = dict(yard.works)
            for name, pace in rings.paces(yard):
                ring = rings.ring(yard, name)
                self.assertEqual(Fraction(*pace), plain.ratio(yard.works, ring) if ring else 0)
                heights = {own: Fraction(*height) for own, height in rings.heights(yard, name)}
                self.assertEqual(tuple(heights), plain.leading(yard.needs, name))
                for before, behind, back, wait in yard.needs:
                    if behind in heights:
                        rise = lasts[before] + wait - back * Fraction(*pace)
                        self.assertGreaterEqual(heights[behind] - heights[before], rise)
                self.assertIs(rings.shows_ring(yard, name, ring), True)
                self.assertIs(rings.shows_heights(yard, name, rings.heights(yard, name)), True)

    def test_equal_calls(self):
        for yard in random_yards(66, 30):
            again = Yard(yard.works, yard.needs)
            for look in (rings.pace, rings.ring, rings.heights, rings.tight, rings.beat):
                for name in yard.names:
                    self.assertEqual(look(yard, name), look(again, name))


class ShownRings(unittest.TestCase):
    def right(self, yard, name):
        """All values that ring may tell."""
        return [repr(ring) for ring in plain.slowest_rings(yard.works, yard.needs, name)] or ["None"]

    def test_what_ring_tells(self):
        for yard in random_yards(67, 200):
            for name in yard.names:
                told = rings.ring(yard, name)
                self.assertIn(repr(told), self.right(yard, name))
                self.assertIs(rings.shows_ring(yard, name, told), True)

    def test_begun_elsewhere(self):
        yard = yard_of({"a": 1, "b": 2, "c": 3}, ("a", "b", 0, 0), ("b", "c", 1, 0), ("c", "a", 1, 0))
        ring = (("a", "b", 0, 0), ("b", "c", 1, 0), ("c", "a", 1, 0))
        for at in range(3):
            self.assertIs(rings.shows_ring(yard, "b", ring[at:] + ring[:at]), True)
        for value in (ring[::-1], ring[:2], ring + ring, ring + ring[:1], ring[1:], (), list(ring), (ring,)):
            self.assertIs(rings.shows_ring(yard, "b", value), False)

    def test_no_two_needs_with_the_same_before(self):
        yard = yard_of({"a": 2}, ("a", "a", 1, 0), ("a", "a", 2, 2))
        for need in yard.needs:
            self.assertIs(rings.shows_ring(yard, "a", (need,)), True)
        self.assertIs(rings.shows_ring(yard, "a", yard.needs), False)

    def test_a_lesser_ring_and_a_need_of_no_yard(self):
        self.assertIs(rings.shows_ring(SLOW, "dock", (("build", "build", 1, 0),)), True)
        self.assertIs(rings.shows_ring(SLOW, "dock", (("dock", "dock", 2, 0),)), False)
        self.assertIs(rings.shows_ring(SLOW, "dock", (("build", "build", True, 0),)), False)
        self.assertIs(rings.shows_ring(SLOW, "dock", (("build", "build", 1, False),)), False)
        self.assertIs(rings.shows_ring(SLOW, "dock", (("dock", "dock", 1, 0),)), False)

    def test_near_to_rings(self):
        told = []
        for yard in random_yards(68, 60, most_works=4):
            for name in yard.names:
                right = self.right(yard, name)
                for value in near(rings.ring(yard, name)):
                    shown = rings.shows_ring(yard, name, value)
                    self.assertIs(shown, repr(value) in right, value)
                    told.append(shown)
        self.assertEqual({True, False}, set(told))

    def test_all_short_tuples_of_needs(self):
        told = []
        for yard in random_yards(69, 60, most_works=3, most_needs=6):
            for name in yard.names:
                right = self.right(yard, name)
                for many in range(4):
                    for value in product(yard.needs, repeat=many):
                        told.append(rings.shows_ring(yard, name, value))
                        self.assertIs(told[-1], repr(value) in right, value)
        self.assertGreater(told.count(True), 50)

    def test_any_value(self):
        bare = yard_of({"a": 1})
        for value in ANY:
            self.assertIs(rings.shows_ring(SLOW, "dock", value), False)
            self.assertIs(rings.shows_ring(bare, "a", value), value is None)


class ShownHeights(unittest.TestCase):
    def test_what_heights_tells(self):
        for yard in random_yards(70, 200):
            for name in yard.names:
                told = rings.heights(yard, name)
                self.assertTrue(plain.are_heights(yard.works, yard.needs, name, told))
                self.assertIs(rings.shows_heights(yard, name, told), True)

    def test_moved_as_a_whole(self):
        yard = yard_of({"a": 5, "b": 2}, ("a", "a", 2, 0), ("a", "b", 0, 0), ("b", "a", 3, 0))
        for yard, name in ((yard, "b"), (SLOW, "dock")):
            told = rings.heights(yard, name)
            for more in (Fraction(-7, 3), Fraction(10**30, 7), Fraction(-(10**9)), Fraction(1, 999999999)):
                sums = [(own, Fraction(*height) + more) for own, height in told]
                value = tuple((own, (height.numerator, height.denominator)) for own, height in sums)
                self.assertIs(rings.shows_heights(yard, name, value), True)

    def test_just_kept_and_just_not(self):
        yard = yard_of({"a": 5, "b": 2}, ("a", "a", 2, 0), ("a", "b", 1, 0))
        self.assertEqual(rings.pace(yard, "b"), (5, 2))
        for height, shown in (((5, 2), True), ((3, 1), True), ((2, 1), False), ((249999999, 100000000), False)):
            self.assertIs(rings.shows_heights(yard, "b", (("a", (0, 1)), ("b", height))), shown)
        for height in ((-5, 2), (-3, 1), (-6, 2)):
            value = (("a", height), ("b", (0, 1)))
            self.assertIs(rings.shows_heights(yard, "b", value), height != (-6, 2))

    def test_fractions_have_one_form(self):
        bare = yard_of({"a": 1})
        for height in ((0, 1), (7, 1), (-1, 2), (10**40, 3)):
            self.assertIs(rings.shows_heights(bare, "a", (("a", height),)), True)
        wrong = ((0, 2), (2, 2), (1, 0), (1, -1), (0, -1), (True, 1), (0, True), [0, 1], (0,), (0, 1, 1), 0, "0", None)
        for height in wrong:
            self.assertIs(rings.shows_heights(bare, "a", (("a", height),)), False, height)

    def test_just_the_works_that_lead_there(self):
        row = (("build", (0, 1)), ("dock", (9, 1)))
        self.assertIs(rings.shows_heights(SLOW, "dock", row), True)
        self.assertIs(rings.shows_heights(SLOW, "build", row[:1]), True)
        for value in (row[::-1], row[:1], row[1:], row + row[1:], list(row), dict(row), (("a", (0, 1)),) + row, ()):
            self.assertIs(rings.shows_heights(SLOW, "dock", value), False)
        self.assertIs(rings.shows_heights(SLOW, "build", row), False)

    def test_near_to_heights(self):
        told = []
        for yard in random_yards(71, 40, most_works=4):
            for name in yard.names:
                for value in near(rings.heights(yard, name)):
                    told.append(rings.shows_heights(yard, name, value))
                    self.assertIs(told[-1], plain.are_heights(yard.works, yard.needs, name, value), value)
        self.assertEqual({True, False}, set(told))

    def test_heights_at_random(self):
        rng = random.Random(72)
        told = []
        for yard in random_yards(73, 60, most_works=4):
            for name in yard.names:
                for _ in range(15):
                    value = []
                    for own in plain.leading(yard.needs, name):
                        height = Fraction(rng.randint(-4, 9), rng.randint(1, 3))
                        value.append((own, (height.numerator, height.denominator)))
                    value = tuple(value)
                    told.append(rings.shows_heights(yard, name, value))
                    self.assertIs(told[-1], plain.are_heights(yard.works, yard.needs, name, value))
        self.assertEqual({True, False}, set(told))

    def test_any_value(self):
        for value in ANY:
            self.assertIs(rings.shows_heights(SLOW, "dock", value), False)
            self.assertIs(rings.shows_heights(SLOW, "build", value), False)


class Guarantee(unittest.TestCase):
    def test_each_pace_has_a_ring_and_heights_that_let_none_have_more(self):
        rng = random.Random(74)
        for yard in random_yards(75, 80):
            wider = Yard(yard.works, needs_for(rng, yard.works, 12))
            for name in wider.names:
                ring = rings.ring(wider, name)
                pace = Fraction(*rings.pace(wider, name))
                self.assertEqual(plain.ratio(wider.works, ring) if ring else 0, pace)
                self.assertIs(rings.shows_heights(wider, name, rings.heights(wider, name)), True)
                for other in plain.rings_to(wider.needs, name):
                    self.assertLessEqual(plain.ratio(wider.works, other), pace)


if __name__ == "__main__":
    unittest.main()
