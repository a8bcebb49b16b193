"""Section 13."""

import random
import unittest

from afloatintime import alike, days, docks, tables, yards
from afloatintime.errors import BadNames, NoYard, TooLong
from afloatintime.yards import Yard, read_yard, without
from tests import plain, plain_far, plain_wide
from tests.samples import ANY, needs_for, random_rows, random_yard, random_yards
from tests.test_tables import RACING, WHEELED, wheels, yard_of

WORKS = "work dock 4\nwork float 1\nwork hull 3\nwork paint 2\n"
YARD = read_yard(
    WORKS + "need dock dock 1 0\nneed dock float 0 0\nneed hull dock 0 0\nneed hull float 0 2\nneed hull hull 1 0\n"
    "need paint float 0 0"
)
LONG = wheels((9, 4), (9, 2), (7,))


def pairs(seed, many):
    """(YARD, YARD) with works of the same NAMES, most of them near to each other."""
    rng = random.Random(seed)
    found = []
    while len(found) < many:
        yard = random_yard(rng, most_works=4, most_needs=9)
        works, needs = list(yard.works), list(yard.needs)
        for _ in range(rng.randint(0, 2)):
            if needs and rng.random() < 0.6:
                needs.pop(rng.randrange(len(needs)))
            else:
                needs += [need for need in needs_for(rng, yard.works, 2) if need not in needs]
        at = rng.randrange(len(works))
        name, last = works[at]
        if rng.random() < 0.3 and 0 < last:
            # The same weights otherwise made up: a day less, and a day more to wait.
            works[at] = (name, last - 1)
            needs = [need[:3] + (need[3] + 1,) if need[0] == name else need for need in needs]
        if not plain.waits_for_itself(needs) and len(needs) <= 40:
            found.append((yard, Yard(tuple(works), tuple(sorted(needs)))))
    return found


def rows_needed(*told):
    """How many ships tell of all."""
    tables_of = [tables.table(yard, (), ()) for yard in told]
    return max(first for first, _, _ in tables_of) + sum(turn for _, turn, _ in tables_of) + 30


class Apart(unittest.TestCase):
    def asked(self, one, other, names, many=None):
        many = many or rows_needed(one, other)
        told = alike.apart(one, other, names)
        plain_told = plain_wide.first_apart((one.works, one.needs), (other.works, other.needs), names, many)
        self.assertEqual(told, plain_told, (one.text, other.text, names))
        self.assertEqual(alike.apart(other, one, names), plain_told)
        return told

    def test_a_yard_and_itself(self):
        for yard in random_yards("itself", 20):
            self.assertIsNone(alike.apart(yard, read_yard(yard.text), yard.names))

    def test_against_ship_by_ship(self):
        rng = random.Random("apart")
        both = [0, 0]
        for one, other in pairs("apart", 150):
            for names in (one.names, tuple(sorted(rng.sample(one.names, rng.randint(1, len(one.names)))))):
                both[self.asked(one, other, names) is None] += 1
        self.assertGreater(min(both), 50)

    def test_the_least_of_the_names_of_the_first_ship(self):
        one = yard_of({"a": 1, "b": 1, "c": 1}, ("a", "a", 1, 0), ("b", "b", 2, 0), ("c", "c", 2, 0))
        other = yard_of({"a": 1, "b": 2, "c": 2}, ("a", "a", 1, 0), ("b", "b", 2, 0), ("c", "c", 2, 0))
        self.assertEqual(self.asked(one, other, ("a", "b", "c")), (2, "b"))
        self.assertEqual(self.asked(one, other, ("a", "c")), (2, "c"))
        self.assertIsNone(self.asked(one, other, ("a",)))

    def test_works_of_one_of_them_alone(self):
        one = yard_of({"a": 1, "b": 1}, ("a", "a", 1, 0), ("a", "b", 0, 0))
        other = yard_of({"a": 1, "aa": 9, "b": 1}, ("a", "a", 1, 0), ("a", "b", 0, 0), ("aa", "b", 5, 0))
        self.assertEqual(self.asked(one, other, ("b",)), (5, "b"))
        for names in (("aa",), ("a", "aa"), ("b", "a"), ("a", "a"), (), ["a"], ("a", None), "a", None, ("A",), (0,), {"a": 1}):
            for first, second in ((one, other), (other, one)):
                with self.assertRaises(BadNames) as caught:
                    alike.apart(first, second, names)
                self.assertIs(caught.exception.value, names)

    def test_unlike_only_far_on(self):
        # A ring of 9 days a ship, and one of 10, which comes up late: without it nothing is unlike for long.
        late = (("a", 9), ("b", 10), ("c", 0))
        for ahead in (3, 40, 90):
            needs = (("a", "a", 1, 0), ("a", "c", 0, ahead), ("b", "b", 1, 0), ("b", "c", 0, -10))
            one, other = Yard(late, needs), Yard(late, needs[:3])
            self.assertEqual(self.asked(one, other, ("a", "b", "c"), 140), (ahead + 10, "c"))

    def test_paces_that_are_near_to_each_other(self):
        one = yard_of({"a": 99}, *[("a", "a", 9, 0)])
        other = yard_of({"a": 11}, ("a", "a", 1, 0))
        self.assertEqual(self.asked(one, other, ("a",)), (1, "a"))
        self.assertIsNone(self.asked(yard_of({"a": 0}, ("a", "a", 1, 0)), yard_of({"a": 7}), ("a",)))

    def test_long_rounds(self):
        self.assertIsNone(self.asked(WHEELED, read_yard(WHEELED.text), ("w", "z"), 900))
        other = without(WHEELED, ("z", "z", 3, 0))
        self.assertEqual(self.asked(WHEELED, other, ("w", "z"), 900), (3, "z"))
        self.assertIsNone(self.asked(WHEELED, other, ("w", "x", "y"), 900))

    def test_rounds_without_a_common_part(self):
        one = yard_of({"a": 8, "b": 9, "z": 0}, ("a", "a", 8, 0), ("b", "b", 9, 0), ("a", "z", 0, 0), ("b", "z", 0, 0))
        for back, ship in ((9, 8), (8, 9)):
            name = "b" if back == 9 else "a"
            other = without(one, (name, "z", 0, 0))
            found = self.asked(one, other, ("z",))
            self.assertIsNotNone(found)

    def test_too_long_behind_all_else(self):
        for one, other in ((LONG, YARD), (YARD, LONG), (LONG, LONG)):
            with self.assertRaises(BadNames):
                alike.apart(one, other, ("zz",))
        fine = yard_of({"z": 1})
        for one, other in ((LONG, fine), (fine, LONG), (LONG, LONG)):
            with self.assertRaises(TooLong) as caught:
                alike.apart(one, other, ("z",))
            self.assertIsNone(caught.exception.value)
        for value in ANY:
            if not isinstance(value, Yard):
                for arguments in ((value, LONG, None), (LONG, value, None), (value, None, None)):
                    with self.assertRaises(NoYard) as caught:
                        alike.apart(*arguments)
                    self.assertIs(caught.exception.value, value)


class Idle(unittest.TestCase):
    def asked(self, yard):
        rows = [tables.table(without(yard, need), (), ()) for need in yard.needs] + [tables.table(yard, (), ())]
        many = max(first for first, _, _ in rows) + 2 * max(turn for _, turn, _ in rows) + 30
        self.assertEqual(alike.idle(yard), plain_wide.idle(yard.works, yard.needs, many), yard.text)

    def test_against_ship_by_ship(self):
        found = 0
        for yard in random_yards("idle", 200, most_works=5, most_needs=12):
            self.asked(yard)
            found += len(alike.idle(yard))
        self.assertGreater(found, 300)

    def test_two_that_say_the_same_are_idle_each_alone(self):
        yard = yard_of({"a": 2, "b": 2, "c": 0}, ("a", "c", 0, 0), ("b", "c", 0, 0))
        self.assertEqual(alike.idle(yard), (0, 1))
        self.assertEqual(alike.needless(yard), ())
        self.assertEqual(alike.idle(without(yard, yard.needs[0])), ())

    def test_what_binds_day_0_alone_tells_nothing(self):
        yard = yard_of({"a": 0, "b": 5}, ("a", "a", 1, 0), ("a", "b", 0, 0), ("b", "b", 3, -5))
        self.assertEqual(alike.idle(yard), (0, 1, 2))

    def test_what_binds_only_once_and_far_on(self):
        for ahead in (3, 40, 90):
            yard = Yard(
                (("a", 9), ("b", 10), ("c", 0)),
                (("a", "a", 1, 0), ("a", "c", 0, ahead), ("b", "b", 1, 0), ("b", "c", 0, -10)),
            )
            self.assertEqual(alike.idle(yard), ())
            self.asked(yard)
        for last, told in ((9, (0,)), (10, ())):
            yard = Yard((("a", last), ("b", 1)), (("a", "b", 9, 0), ("b", "b", 1, 0)))
            self.assertEqual(alike.idle(yard), told)
            self.asked(yard)

    def test_bound_by_a_lesser_pace_in_the_first_round_alone(self):
        # The work z waits for x, of pace 1, and for y, of pace 2: only of ship 0 both bind.
        needs = (("x", "x", 1, 0), ("x", "z", 0, 4), ("y", "y", 1, 0), ("y", "z", 0, 3))
        yard = Yard((("x", 1), ("y", 2), ("z", 0)), needs)
        self.assertEqual(alike.idle(yard), (1,))
        self.asked(yard)

    def test_bound_by_a_lesser_pace_in_the_first_round_of_all_needs(self):
        # Waiting for x holds z where y does, until it falls behind for good: only then y's ring, or z's, is wanted.
        for text, told in (
            ("work x 5\nwork y 2\nwork z 0\nneed x z 0 0\nneed x z 1 2\nneed y y 1 0\nneed y z 0 3", (0, 1)),
            ("work x 0\nwork y 0\nwork z 2\nneed x z 3 1\nneed y y 2 0\nneed y z 3 2\nneed z z 3 0", (0, 1, 2)),
            (
                "work x 1\nwork y 0\nwork z 1\nneed y y 3 0\nneed y z 0 5\nneed y z 0 7\nneed y z 1 2\nneed y z 3 8\n"
                "need z z 3 0",
                (0, 1, 3, 4),
            ),
        ):
            yard = read_yard(text)
            self.assertEqual(alike.idle(yard), told)
            self.asked(yard)

    def test_too_long(self):
        with self.assertRaises(TooLong) as caught:
            alike.idle(LONG)
        self.assertIsNone(caught.exception.value)

    def test_a_table_that_is_too_long_without_one_of_the_needs_does_not_matter(self):
        # Four wheels go as the work s does; without its ring each goes by itself, and all of them come round late.
        turns = {"a": 9, "b": 8, "c": 7, "d": 5}
        needs = [(name, name, back, 0) for name, back in turns.items()] + [("s", name, 0, 0) for name in turns]
        yard = yard_of({name: 1 for name in "abcds"}, ("s", "s", 1, 0), *needs)
        with self.assertRaises(TooLong):
            tables.table(without(yard, ("s", "s", 1, 0)), (), ())
        idle = [yard.needs.index((name, name, back, 0)) for name, back in turns.items()]
        self.assertEqual(alike.idle(yard), tuple(sorted(idle)))

    def test_race(self):
        self.assertEqual(alike.idle(RACING), plain_wide.idle(RACING.works, RACING.needs, 60))

    def test_agrees_with_apart(self):
        for yard in random_yards("idle apart", 60, most_needs=9):
            told = [at for at, need in enumerate(yard.needs) if alike.apart(yard, without(yard, need), yard.names) is None]
            self.assertEqual(alike.idle(yard), tuple(told))


class Needless(unittest.TestCase):
    def test_against_all_chains(self):
        found = 0
        for yard in random_yards("needless", 250, most_works=5, most_needs=14):
            told = alike.needless(yard)
            found += len(told)
            self.assertEqual(told, plain_wide.needless(yard.works, yard.needs), yard.text)
            kept = tuple(need for at, need in enumerate(yard.needs) if at not in told)
            self.assertEqual(alike.lean(yard), Yard(yard.works, kept))
            self.assertEqual(alike.needless(alike.lean(yard)), ())
            self.assertLessEqual(set(told), set(alike.idle(yard)))
        self.assertGreater(found, 100)

    def test_just_as_much_and_a_day_less(self):
        for wait, told in ((1, ()), (0, (1,)), (-1, (1,))):
            yard = yard_of({"a": 3, "b": 2, "c": 0}, ("a", "b", 0, 0), ("a", "c", 0, 2 + wait), ("b", "c", 0, 0))
            self.assertEqual(alike.needless(yard), told)

    def test_of_two_between_the_same_works_the_lesser(self):
        yard = yard_of({"a": 3, "b": 2}, ("a", "b", 1, -1), ("a", "b", 1, 0), ("a", "b", 2, 0))
        self.assertEqual(alike.needless(yard), (0,))

    def test_backs_come_to_just_as_many(self):
        for back, told in ((1, ()), (2, (1,)), (3, ())):
            yard = yard_of({"a": 3, "b": 2, "c": 0}, ("a", "b", 1, 0), ("a", "c", back, 0), ("b", "c", 1, 0))
            self.assertEqual(alike.needless(yard), told)

    def test_rings_gone_round_more_than_once(self):
        yard = yard_of({"a": 3}, ("a", "a", 1, 0), ("a", "a", 4, 9), ("a", "a", 9, 25))
        self.assertEqual(alike.needless(yard), (1,))
        yard = yard_of({"a": 3}, ("a", "a", 1, 0), ("a", "a", 9, 24))
        self.assertEqual(alike.needless(yard), (1,))
        yard = yard_of({"a": 3}, ("a", "a", 2, 0), ("a", "a", 9, 0))
        self.assertEqual(alike.needless(yard), ())

    def test_all_of_a_chain_may_be_needless_at_once(self):
        rows = [("a", "b", 0, 0), ("b", "c", 0, 0), ("c", "d", 0, 0), ("a", "c", 0, 0), ("b", "d", 0, 0), ("a", "d", 0, 0)]
        yard = yard_of({name: 1 for name in "abcd"}, *rows)
        self.assertEqual([yard.needs[at] for at in alike.needless(yard)], [("a", "c", 0, 0), ("a", "d", 0, 0), ("b", "d", 0, 0)])

    def test_long_tables_do_not_matter(self):
        self.assertEqual(alike.needless(LONG), ())
        self.assertEqual(alike.lean(LONG), LONG)
        self.assertIs(alike.alike_always(LONG, LONG), True)
        self.assertIs(alike.alike_always(LONG, YARD), False)


class Always(unittest.TestCase):
    def test_against_late_works(self):
        both = [0, 0]
        rng = random.Random("always")
        for one, other in pairs("always", 250) + [(yard, alike.lean(yard)) for yard in random_yards("lean", 40, most_needs=12)]:
            told = alike.alike_always(one, other)
            both[told] += 1
            self.assertIs(told, plain_wide.alike_always((one.works, one.needs), (other.works, other.needs)), one.text)
            self.assertIs(alike.alike_always(other, one), told)
            if told:
                for _ in range(4):
                    late = random_rows(rng, one, 6, 0, 70), random_rows(rng, one, 6, 1, 40)
                    self.assertEqual(days.earliest_days(one, *late, 25), days.earliest_days(other, *late, 25))
                self.assertIsNone(alike.apart(one, other, one.names))
        self.assertGreater(min(both), 60)

    def test_what_is_idle_may_tell_something_when_all_is_late(self):
        less = without(YARD, ("paint", "float", 0, 0))
        self.assertIsNone(alike.apart(YARD, less, YARD.names))
        self.assertIs(alike.alike_always(YARD, less), False)
        late = ((0, "paint", 50),)
        self.assertNotEqual(days.earliest_days(YARD, late, (), 0), days.earliest_days(less, late, (), 0))

    def test_names_of_works(self):
        self.assertIs(alike.alike_always(yard_of({"a": 1}), yard_of({"b": 1})), False)
        self.assertIs(alike.alike_always(yard_of({"a": 1}), yard_of({"a": 1, "b": 1})), False)
        self.assertIs(alike.alike_always(yard_of({"a": 1}), yard_of({"a": 99})), True)

    def test_a_weight_otherwise_made_up(self):
        one = yard_of({"a": 5, "b": 1}, ("a", "b", 0, 0))
        self.assertIs(alike.alike_always(one, yard_of({"a": 3, "b": 1}, ("a", "b", 0, 2))), True)
        self.assertIs(alike.alike_always(one, yard_of({"a": 3, "b": 1}, ("a", "b", 0, 1))), False)
        self.assertIs(alike.alike_always(one, yard_of({"a": 5, "b": 1}, ("a", "b", 1, 0))), False)

    def test_the_same_weight_from_and_to_another_work(self):
        lasts = {"a": 5, "b": 5, "c": 5}
        for one, other in (
            (("a", "c", 1, 0), ("b", "c", 1, 0)),
            (("a", "b", 1, 0), ("a", "c", 1, 0)),
            (("a", "c", 1, 0), ("a", "c", 2, 0)),
            (("a", "c", 1, 0), ("a", "c", 1, 1)),
        ):
            self.assertIs(alike.alike_always(yard_of(lasts, one), yard_of(lasts, other)), False)
            self.assertIs(alike.alike_always(yard_of(lasts, one, other), yard_of(lasts, one, other)), True)

    def test_a_lean_yard_is_a_yard(self):
        kept = alike.lean(YARD)
        self.assertEqual(read_yard(kept.text), kept)
        self.assertEqual(kept.works, YARD.works)
        self.assertEqual(tables.table(kept, (), ()), tables.table(YARD, (), ()))
        wide = docks.with_more(kept, (("one", (0,)),), (1,))
        self.assertIs(alike.alike_always(kept, wide), False)
        self.assertEqual(alike.apart(kept, wide, ("dock", "float")), (1, "dock"))

    def test_equal_calls(self):
        for one, other in pairs("again", 20):
            again, other_again = yards.read_yard(one.text), yards.read_yard(other.text)
            self.assertEqual(alike.apart(one, other, one.names), alike.apart(again, other_again, one.names))
            self.assertEqual(alike.idle(one), alike.idle(again))
            self.assertEqual(alike.lean(one), alike.lean(again))


if __name__ == "__main__":
    unittest.main()
