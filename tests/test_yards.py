"""Section 4, but for texts that are read."""

import random
import unittest

from afloatintime import errors, yards
from afloatintime.yards import Yard
from tests import plain
from tests.samples import ANY, NAMES, near, needs_for, random_yards

WORKS = (("float", 1), ("hull", 5), ("keel", 3), ("paint", 2))
NEEDS = (("hull", "float", 0, 0), ("hull", "paint", 0, -2), ("keel", "hull", 0, 0), ("paint", "float", 0, 0))
YARD = Yard(WORKS, NEEDS)


def refusal(look, *arguments):
    """The name and the value of the error that a call raises."""
    try:
        look(*arguments)
    except errors.YardError as error:
        return (type(error).__name__, error.value)
    return None


def many_needs(many):
    """So many NEEDS between two works, from one to the other."""
    return tuple(("a", "b", back, wait) for back in range(9) for wait in range(5))[:many]


class Making(unittest.TestCase):
    def test_properties(self):
        self.assertEqual(YARD.works, WORKS)
        self.assertEqual(YARD.needs, NEEDS)
        self.assertEqual(YARD.names, ("float", "hull", "keel", "paint"))

    def test_text(self):
        self.assertEqual(
            YARD.text,
            "work float 1\nwork hull 5\nwork keel 3\nwork paint 2\n"
            "need hull float 0 0\nneed hull paint 0 -2\nneed keel hull 0 0\nneed paint float 0 0",
        )
        self.assertEqual(Yard((("a", 0),), ()).text, "work a 0")

    def test_least_and_greatest_works(self):
        self.assertEqual(Yard((("a", 0),), ()).works, (("a", 0),))
        self.assertEqual(Yard((("a", 99),), ()).works, (("a", 99),))
        self.assertEqual(Yard((("a2345678", 1),), ()).names, ("a2345678",))
        twelve = tuple((f"w{at:02}", at) for at in range(12))
        self.assertEqual(Yard(twelve, ()).works, twelve)
        thirteen = twelve + (("x", 1),)
        self.assertEqual(refusal(Yard, thirteen, ()), ("BadWorks", thirteen))
        self.assertEqual(refusal(Yard, (), ()), ("BadWorks", ()))

    def test_all_signs_of_names(self):
        for sign in map(chr, range(128)):
            first = ((sign, 1),)
            self.assertEqual(refusal(Yard, first, ()) is None, "a" <= sign <= "z", sign)
            second = (("a" + sign, 1),)
            self.assertEqual(refusal(Yard, second, ()) is None, sign.isdigit() or "a" <= sign <= "z", sign)

    def test_names_ascend_as_python_sorts(self):
        self.assertEqual(Yard((("a", 1), ("a0", 1), ("aa", 1), ("b", 1)), ()).names, ("a", "a0", "aa", "b"))
        for works in ((("aa", 1), ("a0", 1)), (("b", 1), ("a", 1)), (("a", 1), ("a", 2)), (("a", 1), ("a", 1))):
            self.assertEqual(refusal(Yard, works, ()), ("BadWorks", works))

    def test_least_and_greatest_needs(self):
        works = (("a", 99), ("b", 0))
        for need in (("a", "b", 0, -99), ("a", "a", 9, 99), ("b", "b", 1, 0), ("b", "a", 0, 99), ("a", "a", 1, -99)):
            self.assertEqual(Yard(works, (need,)).needs, (need,))
        for need in (("b", "b", 1, -1), ("a", "b", 10, 0), ("a", "b", -1, 0), ("a", "b", 0, 100), ("a", "b", 0, -100)):
            self.assertEqual(refusal(Yard, works, (need,)), ("BadNeeds", (need,)))

    def test_forty_needs_and_one_more(self):
        works = (("a", 1), ("b", 1))
        self.assertEqual(len(Yard(works, many_needs(40)).needs), 40)
        self.assertEqual(refusal(Yard, works, many_needs(41)), ("BadNeeds", many_needs(41)))

    def test_needs_ascend(self):
        works = (("a", 1), ("b", 1))
        needs = (("a", "a", 1, 0), ("a", "b", 0, -1), ("a", "b", 0, 0), ("a", "b", 1, -1), ("b", "a", 1, 0))
        self.assertEqual(Yard(works, needs).needs, needs)
        for at in range(4):
            changed = needs[:at] + (needs[at + 1], needs[at]) + needs[at + 2 :]
            self.assertEqual(refusal(Yard, works, changed), ("BadNeeds", changed))

    def test_rings_with_back_0(self):
        works = (("a", 0), ("b", 0), ("c", 0))
        for needs in (
            (("a", "a", 0, 0),),
            (("a", "b", 0, 0), ("b", "a", 0, 5)),
            (("a", "b", 0, 0), ("b", "c", 0, 0), ("c", "a", 0, 0)),
            (("a", "b", 0, 0), ("a", "b", 1, 0), ("b", "c", 0, 0), ("c", "b", 0, 9), ("c", "b", 2, 0)),
        ):
            self.assertEqual(refusal(Yard, works, needs), ("BadRing", needs))
        self.assertIsNone(refusal(Yard, works, (("a", "b", 0, 0), ("b", "c", 0, 0), ("c", "a", 1, 0))))

    def test_rings_against_all_rings(self):
        rng = random.Random(41)
        told = []
        for _ in range(300):
            works = tuple((name, 3) for name in NAMES[:4])
            chosen = {(rng.choice(NAMES[:4]), rng.choice(NAMES[:4]), rng.choice((0, 0, 1)), 0) for _ in range(5)}
            needs = tuple(sorted(chosen))
            wrong = plain.waits_for_itself(needs)
            told.append(wrong)
            self.assertEqual(refusal(Yard, works, needs), ("BadRing", needs) if wrong else None)
        self.assertEqual({True, False}, set(told))

    def test_sequence_of_errors(self):
        ring = (("a", "a", 0, 0),)
        self.assertEqual(refusal(Yard, [], ring), ("BadWorks", []))
        self.assertEqual(refusal(Yard, (("a", 1),), ring + ring), ("BadNeeds", ring + ring))
        self.assertEqual(refusal(Yard, (("b", 1),), ring), ("BadNeeds", ring))
        self.assertEqual(refusal(Yard, (("a", 1),), ring), ("BadRing", ring))

    def test_equal_if_texts_are_and_equal_nothing_else(self):
        same = Yard(tuple(list(WORKS)), tuple(list(NEEDS)))
        self.assertIs(YARD == same, True)
        self.assertIs(YARD != same, False)
        others = (Yard(WORKS, NEEDS[:3]), Yard(WORKS[:3], NEEDS[:1]), YARD.text, (WORKS, NEEDS), YARD.works)
        for other in others + ANY:
            self.assertIs(YARD == other, False)
            self.assertIs(other == YARD, False)
            self.assertIs(YARD != other, True)

    def test_other_operators_raise_type_error(self):
        for look in (
            lambda: YARD < YARD,
            lambda: YARD >= YARD,
            lambda: YARD + YARD,
            lambda: YARD - 1,
            lambda: YARD * 2,
            lambda: -YARD,
            lambda: "a" in YARD,
            lambda: YARD[0],
            lambda: len(YARD),
        ):
            self.assertRaises(TypeError, look)


class Asking(unittest.TestCase):
    def test_days_of(self):
        self.assertEqual([yards.days_of(YARD, name) for name in YARD.names], [1, 5, 3, 2])

    def test_needs_to_and_from(self):
        self.assertEqual(yards.needs_to(YARD, "float"), (NEEDS[0], NEEDS[3]))
        self.assertEqual(yards.needs_from(YARD, "hull"), NEEDS[:2])
        self.assertEqual((yards.needs_to(YARD, "keel"), yards.needs_from(YARD, "float")), ((), ()))
        own = Yard((("a", 1),), (("a", "a", 1, 0),))
        self.assertEqual(yards.needs_to(own, "a"), own.needs)
        self.assertEqual(yards.needs_from(own, "a"), own.needs)

    def test_upstream(self):
        self.assertEqual(yards.upstream(YARD, "float"), ("float", "hull", "keel", "paint"))
        self.assertEqual(yards.upstream(YARD, "paint"), ("hull", "keel", "paint"))
        self.assertEqual(yards.upstream(YARD, "keel"), ("keel",))

    def test_upstream_goes_back_by_ships_too(self):
        yard = Yard((("a", 0), ("b", 0), ("c", 0)), (("a", "b", 9, 0), ("b", "a", 1, 0), ("b", "c", 2, 0)))
        self.assertEqual([yards.upstream(yard, name) for name in "abc"], [("a", "b"), ("a", "b"), ("a", "b", "c")])

    def test_many_yards(self):
        for yard in random_yards(42, 150):
            for name in yard.names:
                self.assertEqual(yards.days_of(yard, name), dict(yard.works)[name])
                self.assertEqual(yards.upstream(yard, name), plain.leading(yard.needs, name))
                self.assertEqual(yards.needs_to(yard, name), tuple(sorted(n for n in yard.needs if n[1] == name)))
                self.assertEqual(yards.needs_from(yard, name), tuple(sorted(n for n in yard.needs if n[0] == name)))


class Changing(unittest.TestCase):
    def test_more_sorts_the_need_in(self):
        yard = yards.more(YARD, ("keel", "float", 2, -3))
        self.assertEqual(yard.needs, NEEDS[:2] + (("keel", "float", 2, -3),) + NEEDS[2:])
        self.assertEqual(yard.works, WORKS)
        self.assertEqual(YARD.needs, NEEDS)

    def test_more_of_what_is_there(self):
        self.assertEqual(refusal(yards.more, YARD, NEEDS[1]), ("BadNeed", NEEDS[1]))
        self.assertEqual(yards.more(YARD, ("hull", "paint", 0, -1)).needs[2], ("hull", "paint", 0, -1))

    def test_more_of_a_weight_of_0_and_below(self):
        self.assertEqual(len(yards.more(YARD, ("keel", "keel", 1, -3)).needs), 5)
        self.assertEqual(refusal(yards.more, YARD, ("keel", "keel", 1, -4)), ("BadNeed", ("keel", "keel", 1, -4)))

    def test_more_where_it_is_full(self):
        full = Yard((("a", 1), ("b", 1)), many_needs(40))
        self.assertEqual(refusal(yards.more, full, ("b", "b", 1, 0)), ("Full", 40))
        # It is full, whatever the ring that would come of it.
        self.assertEqual(refusal(yards.more, full, ("b", "a", 0, 0)), ("Full", 40))
        self.assertEqual(refusal(yards.more, full, full.needs[0]), ("BadNeed", full.needs[0]))
        self.assertEqual(len(yards.more(yards.without(full, full.needs[7]), ("b", "b", 1, 0)).needs), 40)

    def test_more_with_a_ring(self):
        value = NEEDS[:1] + (("float", "keel", 0, 0),) + NEEDS[1:]
        self.assertEqual(refusal(yards.more, YARD, ("float", "keel", 0, 0)), ("BadRing", tuple(sorted(value))))
        self.assertEqual(refusal(yards.more, YARD, ("hull", "hull", 0, 0))[0], "BadRing")

    def test_without(self):
        for at, need in enumerate(NEEDS):
            self.assertEqual(yards.without(YARD, need), Yard(WORKS, NEEDS[:at] + NEEDS[at + 1 :]))
        own = Yard((("a", 1),), (("a", "a", 1, 0),))
        self.assertEqual(yards.without(own, ("a", "a", 1, 0)).needs, ())
        self.assertEqual(refusal(yards.without, own, ("a", "a", True, 0)), ("NoNeed", ("a", "a", True, 0)))
        self.assertEqual(refusal(yards.without, own, ("a", "a", 1, False)), ("NoNeed", ("a", "a", 1, False)))
        self.assertEqual(refusal(yards.without, own, ("a", "a", 2, 0)), ("NoNeed", ("a", "a", 2, 0)))

    def test_more_and_without_near_to_needs(self):
        for yard in random_yards(43, 25):
            for need in yard.needs:
                for value in near(need):
                    own = any(plain.alike(value, one) for one in yard.needs)
                    told = refusal(yards.without, yard, value)
                    self.assertEqual(told is None, own, value)
                    if not own:
                        self.assertEqual(told[0], "NoNeed")
                        self.assertIs(told[1], value)
                    if own:
                        self.assertEqual(refusal(yards.more, yard, value), ("BadNeed", value))

    def test_lasting(self):
        self.assertEqual(yards.lasting(YARD, "hull", 2).works, (("float", 1), ("hull", 2)) + WORKS[2:])
        self.assertEqual(yards.lasting(YARD, "hull", 2).needs, NEEDS)
        self.assertEqual(refusal(yards.lasting, YARD, "hull", 1), ("BadDays", 1))
        self.assertEqual(yards.lasting(YARD, "keel", 0).works[2], ("keel", 0))
        self.assertEqual(yards.lasting(YARD, "keel", 99).works[2], ("keel", 99))
        self.assertEqual(refusal(yards.lasting, YARD, "keel", 100), ("BadDays", 100))
        self.assertEqual(refusal(yards.lasting, YARD, "keel", -1), ("BadDays", -1))
        self.assertEqual(yards.lasting(YARD, "keel", 3), YARD)
        waiting = Yard((("a", 1), ("b", 1)), (("b", "b", 1, 9),))
        for name in ("a", "b"):
            self.assertEqual(refusal(yards.lasting, waiting, name, -1), ("BadDays", -1))
            self.assertEqual(yards.lasting(waiting, name, 0).needs, waiting.needs)

    def test_lasting_takes_all_needs_from_the_work(self):
        works = (("a", 9), ("b", 9))
        yard = Yard(works, (("a", "a", 1, -4), ("a", "b", 0, -7), ("a", "b", 1, 3), ("b", "a", 1, -8)))
        for days in range(-1, 101):
            self.assertEqual(refusal(yards.lasting, yard, "a", days) is None, 7 <= days <= 99)
            self.assertEqual(refusal(yards.lasting, yard, "b", days) is None, 8 <= days <= 99)

    def test_with_docks(self):
        for many in range(1, 10):
            yard = yards.with_docks(YARD, "keel", "float", many)
            self.assertEqual(yard, yards.more(YARD, ("float", "keel", many, 0)))
        for many in (0, 10, True, "1", None):
            self.assertEqual(refusal(yards.with_docks, YARD, "keel", "float", many), ("BadNumber", many))
        self.assertEqual(yards.with_docks(YARD, "hull", "hull", 1).needs[1], ("hull", "hull", 1, 0))

    def test_with_docks_raises_what_more_raises(self):
        docks = yards.with_docks(YARD, "keel", "float", 2)
        need = ("float", "keel", 2, 0)
        self.assertEqual(refusal(yards.with_docks, docks, "keel", "float", 2), ("BadNeed", need))
        full = Yard((("a", 1), ("b", 1)), many_needs(40))
        self.assertEqual(refusal(yards.with_docks, full, "a", "b", 1), ("Full", 40))
        self.assertEqual(refusal(yards.with_docks, full, "b", "a", 1), ("BadNeed", ("a", "b", 1, 0)))

    def test_with_docks_tells_enters_ahead_of_leaves(self):
        self.assertEqual(refusal(yards.with_docks, YARD, "zz", "yy", 0), ("NoWork", "zz"))
        self.assertEqual(refusal(yards.with_docks, YARD, "keel", "yy", 0), ("NoWork", "yy"))
        self.assertEqual(refusal(yards.with_docks, YARD, "keel", "float", 0), ("BadNumber", 0))

    def test_equal_calls(self):
        again = Yard(WORKS, NEEDS)
        for look in (
            lambda yard: yards.more(yard, ("keel", "float", 2, -3)),
            lambda yard: yards.without(yard, NEEDS[0]),
            lambda yard: yards.lasting(yard, "keel", 8),
            lambda yard: yards.with_docks(yard, "keel", "float", 2),
        ):
            self.assertEqual(look(YARD), look(again))
            self.assertEqual((again.works, again.needs), (WORKS, NEEDS))


class ManyChanges(unittest.TestCase):
    def test_more_against_all_rings(self):
        rng = random.Random(44)
        for yard in random_yards(45, 60):
            for need in needs_for(rng, yard.works, 3) + tuple((name, name, 0, 0) for name in yard.names):
                together = tuple(sorted({*yard.needs, need}))
                expected = None
                if need in yard.needs:
                    expected = ("BadNeed", need)
                elif plain.waits_for_itself(together):
                    expected = ("BadRing", together)
                self.assertEqual(refusal(yards.more, yard, need), expected)
                if expected is None:
                    self.assertEqual(yards.more(yard, need).needs, together)
                    self.assertEqual(yards.without(yards.more(yard, need), need), yard)


if __name__ == "__main__":
    unittest.main()
