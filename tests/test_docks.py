"""Section 11, and the guarantee (g) of section 3."""

import random
import unittest
from fractions import Fraction

from afloatintime import docks, rings, tables, yards
from afloatintime.errors import BadDocks, BadMore, BadNumber, BadPace, NoWork
from afloatintime.yards import Yard
from tests import plain, plain_wide
from tests.samples import ANY, near, random_yard
from tests.test_tables import yard_of

NEEDS = (("build", "build", 1, 0), ("build", "dock", 0, 0), ("dock", "dock", 1, 0))
YARD = Yard((("build", 3), ("dock", 2)), NEEDS)
DOCKS = (("crew", (0,)), ("slip", (2,)))
# A ring through four NEEDS, each of which leads back and has a DOCK of its own.
ROUND = yard_of({name: 9 for name in "abcd"}, *[(one, other, 1, 0) for one, other in ("ab", "bc", "cd", "da")])
FOUR = tuple((f"d{at}", (at,)) for at in range(4))


def random_docks(rng, yard):
    numbers = list(range(len(yard.needs)))
    rng.shuffle(numbers)
    lots = [numbers[at::4] for at in range(4)][: rng.randint(1, 4)]
    found = [tuple(sorted(lot[: rng.randint(1, 3)])) for lot in lots if lot]
    return tuple((f"d{at}", lot) for at, lot in enumerate(found))


def cases(seed, many):
    """(YARD, DOCKS, NAME) at random."""
    rng = random.Random(seed)
    found = []
    while len(found) < many:
        yard = random_yard(rng, most_works=4, most_needs=8)
        if yard.needs:
            found.append((yard, random_docks(rng, yard), rng.choice(yard.names)))
    return found


def wished(yard, held, name, most):
    """FRACTIONS from 0 on at and near to the paces of this work with MORE of all totals."""
    paces = set()
    for total in range(most + 1):
        paces |= set(plain_wide.paces_with(yard.works, yard.needs, held, name, total).values())
    near_paces = paces | {pace - Fraction(1, 97) for pace in paces} | {Fraction(0)}
    return sorted(pace.as_integer_ratio() for pace in near_paces if pace >= 0)


class WithMore(unittest.TestCase):
    def test_needs_that_come_to_be_the_same_are_told_once(self):
        yard = yard_of({"a": 3, "b": 1}, ("a", "b", 1, 0), ("a", "b", 2, 0), ("b", "a", 1, 0))
        wide = docks.with_more(yard, (("one", (0,)),), (1,))
        self.assertEqual(wide.needs, (("a", "b", 2, 0), ("b", "a", 1, 0)))
        self.assertEqual(docks.with_more(yard, (("one", (0, 1)),), (1,)).needs[:2], (("a", "b", 2, 0), ("a", "b", 3, 0)))

    def test_sorted_anew(self):
        yard = yard_of({"a": 3}, ("a", "a", 1, 2), ("a", "a", 2, 1), ("a", "a", 3, 0))
        wide = docks.with_more(yard, (("one", (0, 1)),), (5,))
        self.assertEqual(wide.needs, (("a", "a", 3, 0), ("a", "a", 6, 2), ("a", "a", 7, 1)))

    def test_none_of_any_is_the_yard_itself(self):
        for yard, held, _ in cases("none", 30):
            self.assertEqual(docks.with_more(yard, held, tuple(0 for _ in held)), yard)

    def test_no_back_above_9(self):
        yard = yard_of({"a": 3, "b": 1}, ("a", "a", 2, 0), ("b", "b", 9, 0))
        held = (("one", (0,)), ("two", (1,)))
        self.assertEqual(docks.with_more(yard, held, (7, 0)).needs[0], ("a", "a", 9, 0))
        for more in ((8, 0), (0, 1), (-1, 0), (True, 0), (0,), (0, 0, 0), [0, 0], (0, None), ("0", 0)):
            with self.assertRaises(BadMore) as caught:
                docks.with_more(yard, held, more)
            self.assertIs(caught.exception.value, more)
        with self.assertRaises(BadMore):
            docks.with_more(yard, (("one", (0, 1)),), (1,))
        self.assertEqual(docks.with_more(yard, (("one", (0, 1)),), (0,)), yard)

    def test_names_of_docks_need_be_those_of_no_works(self):
        self.assertEqual(docks.with_more(YARD, (("z9999999", (0, 2)),), (8,)).needs[0], ("build", "build", 9, 0))
        self.assertEqual(docks.with_more(YARD, (("build", (1,)),), (1,)).needs[0], ("build", "build", 1, 0))

    def test_against_plain_needs(self):
        rng = random.Random("with more")
        for yard, held, _ in cases("with more", 60):
            for total in (0, 1, 3, 8):
                rows = plain_wide.all_more(yard.needs, held, total)
                for more in rng.sample(rows, min(5, len(rows))):
                    wide = docks.with_more(yard, held, more)
                    self.assertEqual(wide.works, yard.works)
                    self.assertEqual(wide.needs, plain_wide.with_more(yard.needs, held, more))

    def test_a_yard_with_more_is_a_yard(self):
        wide = docks.with_more(YARD, DOCKS, (0, 1))
        self.assertEqual(wide, yards.with_docks(yards.without(YARD, NEEDS[2]), "dock", "dock", 2))
        self.assertEqual(yards.read_yard(wide.text), wide)
        self.assertEqual(tables.table(wide, (), ()), (0, 1, ((0, 3),)))


class Paces(unittest.TestCase):
    def test_none_where_there_are_no_more(self):
        yard = yard_of({"a": 9}, ("a", "a", 7, 0))
        self.assertEqual(
            docks.best_paces(yard, (("one", (0,)),), "a", 8), ((9, 7), (9, 8), (1, 1)) + (None,) * 6
        )
        yard = yard_of({"a": 9}, ("a", "a", 9, 0))
        self.assertEqual(docks.best_paces(yard, (("one", (0,)),), "a", 1), ((1, 1), None))
        self.assertEqual(docks.fewest(yard, (("one", (0,)),), "a", (1, 2)), ())

    def test_docks_that_do_not_lead_to_the_work(self):
        self.assertEqual(docks.best_paces(YARD, DOCKS[1:], "build", 2), ((3, 1), (3, 1), (3, 1)))
        self.assertEqual(docks.best_paces(YARD, (("one", (1,)),), "dock", 1), ((3, 1), (3, 1)))

    def test_without_rings(self):
        yard = yard_of({"a": 9, "b": 1}, ("a", "b", 0, 0))
        self.assertEqual(docks.best_paces(yard, (("one", (0,)),), "b", 2), ((0, 1),) * 3)
        self.assertEqual(docks.fewest(yard, (("one", (0,)),), "b", (0, 1)), ((0,),))

    def test_most(self):
        self.assertEqual(docks.best_paces(YARD, DOCKS, "dock", 0), ((3, 1),))
        self.assertEqual(len(docks.best_paces(YARD, DOCKS, "dock", 8)), 9)
        for most in (-1, 9, True, False, None, "0", (0,), 10**8):
            with self.assertRaises(BadNumber) as caught:
                docks.best_paces(YARD, DOCKS, "dock", most)
            self.assertIs(caught.exception.value, most)

    def test_a_total_of_8_and_no_more(self):
        self.assertEqual(docks.fewest(ROUND, FOUR, "a", (3, 1)), tuple(plain_wide.all_more(ROUND.needs, FOUR, 8)))
        self.assertEqual(docks.fewest(ROUND, FOUR, "a", (35, 12)), ())
        self.assertEqual(len(docks.fewest(ROUND, FOUR, "a", (3, 1))), 165)

    def test_against_all_more(self):
        for yard, held, name in cases("all more", 60):
            most = 4
            told = docks.best_paces(yard, held, name, most)
            for total in range(most + 1):
                rows = plain_wide.paces_with(yard.works, yard.needs, held, name, total)
                least = min(rows.values()).as_integer_ratio() if rows else None
                self.assertEqual(told[total], least, (yard.text, held, name))
            for pace in wished(yard, held, name, 2):
                expected = plain_wide.fewest(yard.works, yard.needs, held, name, pace, 8)
                self.assertEqual(docks.fewest(yard, held, name, pace), expected, (yard.text, held, name, pace))

    def test_fewest_and_best_paces_agree(self):
        for yard, held, name in cases("agree", 25):
            told = docks.best_paces(yard, held, name, 8)
            for total, pace in enumerate(told):
                if pace is not None:
                    found = docks.fewest(yard, held, name, pace)
                    first = [own for own in told if own and Fraction(*own) <= Fraction(*pace)][0]
                    self.assertEqual(sum(found[0]), told.index(first))
                    for more in found:
                        self.assertEqual(sum(more), sum(found[0]))
                        own = rings.pace(docks.with_more(yard, held, more), name)
                        self.assertLessEqual(Fraction(*own), Fraction(*pace))

    def test_equal_calls(self):
        for yard, held, name in cases("again", 10):
            again = yards.read_yard(yard.text)
            self.assertEqual(docks.best_paces(yard, held, name, 3), docks.best_paces(again, held, name, 3))
            self.assertEqual(docks.too_few(yard, held, name, (1, 3), 2), docks.too_few(again, held, name, (1, 3), 2))


class Errors(unittest.TestCase):
    def test_docks(self):
        for held in (DOCKS[:1], DOCKS, (("a", (0, 1, 2)),), tuple((name, (at,)) for at, name in enumerate("abc"))):
            docks.best_paces(YARD, held, "dock", 0)
        docks.best_paces(ROUND, FOUR, "a", 0)
        five = yard_of({"a": 1}, *[("a", "a", back, 0) for back in range(1, 6)])
        for yard, held in (
            (five, tuple((f"d{at}", (at,)) for at in range(5))),
            (YARD, DOCKS[::-1]),
            (YARD, (("crew", (0,)), ("crew", (2,)))),
            (YARD, (("crew", (0, 2)), ("slip", (2,)))),
            (YARD, (("crew", (2, 0)),)),
            (YARD, (("crew", (0, 0)),)),
            (YARD, (("crew", (3,)),)),
            (YARD, (("crew", (-1,)),)),
            (YARD, (("Crew", (0,)),)),
            (YARD, ()),
        ):
            with self.assertRaises(BadDocks) as caught:
                docks.best_paces(yard, held, "zz", -1)
            self.assertIs(caught.exception.value, held)

    def test_in_sequence(self):
        for arguments, error in (
            (("zz", (1, -1), 9), NoWork),
            (("dock", (1, -1), 9), BadPace),
            (("dock", (2, 2), 9), BadPace),
            (("dock", (1, 1), 9), BadNumber),
        ):
            with self.assertRaises(error):
                docks.too_few(YARD, DOCKS, *arguments)
            with self.assertRaises(error):
                docks.shows_too_few(YARD, DOCKS, *arguments, None)


class Trees(unittest.TestCase):
    def asked(self, yard, held, name, pace, most, value):
        """What the definition asks of a value that is not None."""
        expected = plain_wide.is_tree(yard.works, yard.needs, held, name, pace, most, value)
        told = docks.shows_too_few(yard, held, name, pace, most, value)
        self.assertIs(told, expected, (yard.text, held, name, pace, most, value))

    def test_just_one_of_a_tree_and_more_that_do(self):
        both = [0, 0]
        for yard, held, name in cases("just one", 50):
            for pace in wished(yard, held, name, 2):
                for most in (0, 1, 3):
                    does = bool(plain_wide.fewest(yard.works, yard.needs, held, name, pace, most))
                    tree = docks.too_few(yard, held, name, pace, most)
                    both[does] += 1
                    self.assertIs(tree is None, does)
                    self.assertIs(docks.shows_too_few(yard, held, name, pace, most, None), does)
                    if tree is not None:
                        self.assertTrue(
                            plain_wide.is_tree(yard.works, yard.needs, held, name, pace, most, tree), (yard.text, tree)
                        )
                        self.assertIs(docks.shows_too_few(yard, held, name, pace, most, tree), True)
        self.assertGreater(min(both), 100)

    def test_near_to_trees(self):
        found = 0
        for yard, held, name in cases("near", 30):
            for pace in wished(yard, held, name, 1)[:3]:
                tree = docks.too_few(yard, held, name, pace, 2)
                if tree is not None:
                    for value in list(near(tree))[:250]:
                        if value is not None:
                            self.asked(yard, held, name, pace, 2, value)
                            found += 1
                    for most in (0, 1, 3, 8):
                        self.asked(yard, held, name, pace, most, tree)
        self.assertGreater(found, 1500)

    def test_all_short_loops(self):
        yard = yard_of({"a": 4, "b": 2, "c": 9}, ("a", "a", 1, 0), ("a", "b", 0, 0), ("b", "a", 1, -1), ("c", "c", 1, 0))
        held = (("one", (0,)), ("two", (2,)))
        chains = [(number,) for number in range(4)]
        chains += [one + (number,) for one in chains for number in range(4)]
        chains += [one + (number,) for one in chains[4:] for number in range(4)]
        for loop in chains + [()]:
            for branches in ((), ((0, ((0,), ())),), ((1, ((0,), ())),), ((0, ((1, 2), ())), (1, ((0,), ())))):
                for pace in ((3, 1), (4, 1), (5, 1)):
                    for most in (0, 1):
                        self.asked(yard, held, "b", pace, most, (loop, branches))

    def test_a_loop_gone_round_twice(self):
        leaf = ((0, 0), ())
        self.assertTrue(docks.shows_too_few(YARD, DOCKS, "dock", (2, 1), 0, leaf))
        self.assertTrue(docks.shows_too_few(YARD, DOCKS, "dock", (1, 1), 1, ((0, 0, 0), ((0, leaf),))))
        self.assertFalse(docks.shows_too_few(YARD, DOCKS, "dock", (1, 1), 1, ((0, 0, 0), ((1, leaf),))))

    def test_a_loop_that_does_not_lead_to_the_work(self):
        self.assertTrue(docks.shows_too_few(YARD, DOCKS, "dock", (1, 1), 0, ((2,), ())))
        self.assertFalse(docks.shows_too_few(YARD, DOCKS, "build", (1, 1), 0, ((2,), ())))
        self.assertTrue(docks.shows_too_few(YARD, DOCKS, "build", (1, 1), 0, ((0,), ())))

    def test_just_too_slow(self):
        self.assertFalse(docks.shows_too_few(YARD, DOCKS, "dock", (3, 1), 0, ((0,), ())))
        self.assertTrue(docks.shows_too_few(YARD, DOCKS, "dock", (299, 100), 0, ((0,), ())))

    def test_a_dock_that_cannot_have_one_more_has_no_branch(self):
        yard = yard_of({"a": 9}, ("a", "a", 8, 0))
        held = (("one", (0,)),)
        tree = ((0,), ((0, ((0,), ())),))
        for most in range(1, 9):
            self.assertTrue(docks.shows_too_few(yard, held, "a", (1, 2), most, tree))
            self.assertEqual(docks.too_few(yard, held, "a", (1, 2), most), tree)
        self.assertFalse(docks.shows_too_few(yard, held, "a", (1, 2), 0, tree))
        self.assertTrue(docks.shows_too_few(yard, held, "a", (1, 2), 0, ((0,), ())))

    def test_a_loop_without_docks_has_no_branch(self):
        for most in (0, 5, 8):
            self.assertTrue(docks.shows_too_few(YARD, DOCKS[1:], "dock", (2, 1), most, ((0,), ())))
            tree = docks.too_few(YARD, DOCKS[1:], "dock", (2, 1), most)
            self.assertTrue(docks.shows_too_few(YARD, DOCKS[1:], "dock", (2, 1), most, tree))

    def test_all_totals_up_to_8(self):
        for most in range(9):
            tree = docks.too_few(ROUND, FOUR[:2], "c", (1, 1), most)
            self.assertTrue(plain_wide.is_tree(ROUND.works, ROUND.needs, FOUR[:2], "c", (1, 1), most, tree))
            self.assertTrue(docks.shows_too_few(ROUND, FOUR[:2], "c", (1, 1), most, tree))
            self.assertFalse(docks.shows_too_few(ROUND, FOUR[:2], "c", (1, 1), (most + 1) % 9, tree))

    def test_the_greatest_tree(self):
        tree = docks.too_few(ROUND, FOUR, "c", (1, 1), 8)
        self.assertTrue(docks.shows_too_few(ROUND, FOUR, "c", (1, 1), 8, tree))
        self.assertIsNone(docks.too_few(ROUND, FOUR, "c", (3, 1), 8))
        self.assertIsNotNone(docks.too_few(ROUND, FOUR, "c", (3, 1), 7))

    def test_any_value(self):
        for value in ANY:
            self.assertIs(docks.shows_too_few(YARD, DOCKS, "dock", (1, 1), 2, value), False)
            self.assertIs(docks.shows_too_few(YARD, DOCKS, "dock", (3, 1), 2, value), value is None)
            self.assertIs(docks.shows_too_few(YARD, DOCKS, "dock", (1, 1), 0, ((0,), value)), value == ())
            self.assertIs(docks.shows_too_few(YARD, DOCKS, "dock", (1, 1), 0, (value, ())), value == (0,))


if __name__ == "__main__":
    unittest.main()
