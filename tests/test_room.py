"""Section 9, and the guarantee (e) of section 3."""

import random
import unittest

from afloatintime import late, rings, room, tables
from afloatintime.errors import BadSpot, NoWork, NoYard, Same, TooLong
from afloatintime.yards import Yard
from tests import plain_far
from tests.samples import ANY, near, random_yards
from tests.test_late import LINE, TWO
from tests.test_tables import FAR, RACING, WHEELED, WHEELS, rows_of, wheels, yard_of

MANY = 170
HULLS = yard_of(
    {"dock": 4, "float": 1, "hull": 3},
    ("dock", "dock", 1, 0), ("dock", "float", 0, 0), ("hull", "dock", 0, 0), ("hull", "hull", 1, 0),
)  # fmt: skip
BARE = yard_of({"a": 3, "b": 2})


def small_yards(seed, many):
    """YARDS whose TABLES are short, so that some ships tell what is told of all; and the days of these ships."""
    found = []
    for yard in random_yards(seed, many, most_works=4, most_needs=7):
        rows = rows_of(yard, (), (), MANY)
        if plain_far.least_round(rows, plain_far.steps(yard.works, yard.needs), 30) is not None:
            found.append((yard, rows))
    return found


def moves(yard, rows, delays, changes, names):
    return plain_far.moves(yard.works, yard.needs, rows, delays, changes, names)


class Rooms(unittest.TestCase):
    def test_the_spot_is_the_goal(self):
        for yard in (HULLS, LINE, TWO, RACING, BARE):
            for name in yard.names:
                for ship in (0, 1, 7, FAR):
                    self.assertEqual(room.room(yard, (ship, name), name), 0)
                    self.assertEqual(room.binding(yard, (ship, name), name), (ship, ()))
                    self.assertIs(room.shows_binding(yard, (ship, name), name, (ship, ())), True)
                self.assertEqual(room.rooms(yard, name, name), ((), (0,), 0))
                self.assertIn(name, room.tight_works(yard, name))

    def test_nothing_bounds_it(self):
        self.assertIsNone(room.room(HULLS, (5, "float"), "dock"))
        self.assertIsNone(room.lasting_room(HULLS, (5, "float"), "dock"))
        self.assertIsNone(room.lasting_room(HULLS, (5, "float"), "float"))
        self.assertIsNone(room.free_room(HULLS, (5, "float")))
        self.assertIsNone(room.rooms(HULLS, "float", "dock"))
        self.assertIsNone(room.binding(HULLS, (5, "float"), "dock"))
        self.assertIs(room.shows_binding(HULLS, (5, "float"), "dock", None), True)
        self.assertIsNone(room.free_room(BARE, (FAR, "a")))
        self.assertIsNone(room.room(BARE, (0, "a"), "b"))
        self.assertEqual(room.tight_works(BARE, "a"), ("a",))
        self.assertEqual(room.pair_room(BARE, (0, "a"), (1, "a"), "a"), (None, None, None))

    def test_works_without_rings(self):
        yard = yard_of({"a": 3, "b": 5, "c": 0}, ("a", "c", 2, 0), ("b", "c", 0, 0))
        self.assertEqual([room.room(yard, (ship, "a"), "c") for ship in (0, 1, FAR)], [2, 2, 2])
        self.assertEqual(room.rooms(yard, "a", "c"), ((), (2,), 0))
        self.assertEqual(room.tight_works(yard, "c"), ("b", "c"))
        self.assertEqual(room.binding(yard, (7, "a"), "c"), (9, (0,)))
        self.assertEqual(room.free_room(yard, (7, "a")), 2)

    def test_room_that_grows_and_room_that_does_not(self):
        self.assertEqual(room.rooms(HULLS, "hull", "float"), ((), (0,), 1))
        self.assertEqual([room.room(HULLS, (ship, "hull"), "float") for ship in (0, 3, FAR)], [0, 3, FAR])
        self.assertEqual(room.rooms(HULLS, "hull", "hull"), ((), (0,), 0))
        # In the second yard the hulls are ahead of two docks: by twos they have as much room.
        yard = yard_of({"dock": 5, "hull": 2}, ("dock", "dock", 2, 0), ("hull", "dock", 0, 0), ("hull", "hull", 1, 0))
        self.assertEqual(room.rooms(yard, "hull", "dock"), ((), (0, 0), 1))
        self.assertEqual([room.room(yard, (ship, "hull"), "dock") for ship in range(6)], [0, 0, 1, 1, 2, 2])

    def test_a_ring_that_overtakes_late(self):
        # c waits for a at the first ships, and for b then: a has more and more room, and not at once.
        yard = yard_of({"a": 9, "b": 10, "c": 0}, ("a", "a", 1, 0), ("a", "c", 0, 3), ("b", "b", 1, 0), ("b", "c", 0, -1))
        self.assertEqual([room.room(yard, (ship, "a"), "c") for ship in range(6)], [0, 0, 0, 0, 1, 2])
        self.assertEqual(room.rooms(yard, "a", "c"), ((0, 0, 0), (0,), 1))
        self.assertEqual([room.room(yard, (ship, "b"), "c") for ship in range(6)], [0] * 6)
        self.assertEqual(room.tight_works(yard, "c"), ("b", "c"))
        self.assertEqual(room.room(yard, (FAR, "a"), "c"), FAR - 3)

    def test_late_by_the_longest_way(self):
        # b waits for c, until from ship 212 on the ring of a, of 5 days a ship, overtakes that of c, of 14 days for 3.
        needs = (("a", "a", 1, 0), ("a", "b", 9, 0), ("c", "b", 0, 0), ("c", "c", 3, -26))
        yard = yard_of({"a": 5, "b": 1, "c": 40}, *needs)
        late_b = [ship for ship in range(300) if 5 * (ship - 9) + 5 >= 14 * (ship // 3) + 40]
        self.assertEqual(late_b[0], 212)
        for ship in (0, 4, 99):
            self.assertEqual(room.room(yard, (ship, "a"), "b"), 0)
            n, _ = room.binding(yard, (ship, "a"), "b")
            self.assertIn(n, late_b)
            delays = ((ship, "a", 5 * ship + 1),)
            self.assertEqual([late.moved_at(yard, delays, (), "b", own) for own in (211, n)], [0, 1])
        self.assertEqual(room.free_room(yard, (0, "a")), 0)
        self.assertEqual(room.tight_works(yard, "b"), ("a", "b"))
        # The last ships of which c binds b are told by rooms ahead of the round.
        self.assertEqual(plain_far.told_of([room.room(yard, (ship, "c"), "b") for ship in range(500)], 400),
                         room.rooms(yard, "c", "b"))  # fmt: skip

    def test_against_what_delays_move(self):
        seen = set()
        for yard, rows in small_yards(101, 150):
            rng = random.Random(len(seen))
            for goal in yard.names:
                for name in yard.names:
                    ship = rng.choice((0, 1, 2, 5, 11, 30))
                    told = room.room(yard, (ship, name), goal)
                    day = rows[ship][yard.names.index(name)]
                    if told is None:
                        self.assertFalse(moves(yard, rows, ((ship, name, 10**6),), (), (goal,)))
                    else:
                        self.assertFalse(moves(yard, rows, ((ship, name, day + told),), (), (goal,)))
                        self.assertTrue(moves(yard, rows, ((ship, name, day + told + 1),), (), (goal,)))
                    seen.add(told)
        self.assertGreater(len(seen), 15)
        self.assertTrue({None, 0} <= seen)

    def test_against_what_changes_move(self):
        seen = set()
        for yard, rows in small_yards(102, 150):
            rng = random.Random(len(seen))
            for goal in yard.names:
                for name in yard.names:
                    ship = rng.choice((0, 1, 2, 5, 11, 30))
                    told = room.lasting_room(yard, (ship, name), goal)
                    if told is None:
                        self.assertFalse(moves(yard, rows, (), ((ship, name, 10**6),), (goal,)))
                    else:
                        self.assertFalse(moves(yard, rows, (), ((ship, name, told),), (goal,)))
                        self.assertTrue(moves(yard, rows, (), ((ship, name, told + 1),), (goal,)))
                    if name != goal:
                        self.assertEqual(told, room.room(yard, (ship, name), goal))
                    seen.add((told, name == goal))
        self.assertTrue({(None, True), (None, False), (0, True), (0, False)} <= seen)

    def test_free_room_against_what_delays_move(self):
        seen = set()
        for yard, rows in small_yards(103, 200):
            for place, name in enumerate(yard.names):
                for ship in (0, 3, 20):
                    told = room.free_room(yard, (ship, name))
                    late_days = 10**6 if told is None else told
                    delays = ((ship, name, rows[ship][place] + late_days),)
                    later = plain_far.days(yard.works, yard.needs, delays, (), MANY)
                    both = [(own, at) for own in range(MANY) for at in range(len(yard.names))]
                    other = [spot for spot in both if spot != (ship, place)]
                    self.assertTrue(all(later[own][at] == rows[own][at] for own, at in other))
                    if told is not None:
                        delays = ((ship, name, rows[ship][place] + told + 1),)
                        later = plain_far.days(yard.works, yard.needs, delays, (), MANY)
                        self.assertFalse(all(later[own][at] == rows[own][at] for own, at in other))
                    seen.add(told)
        self.assertGreater(len(seen), 8)

    def test_free_room_is_no_more_than_any_other(self):
        for yard, _ in small_yards(104, 60):
            for name in yard.names:
                free = room.free_room(yard, (4, name))
                rest = [room.lasting_room(yard, (4, name), goal) for goal in yard.names]
                self.assertEqual(free, min([own for own in rest if own is not None], default=None))

    def test_rooms_against_ship_by_ship(self):
        seen = set()
        for yard, _ in small_yards(105, 120):
            for name in yard.names:
                for goal in yard.names:
                    numbers = [room.room(yard, (ship, name), goal) for ship in range(54)]
                    told = room.rooms(yard, name, goal)
                    if told is None:
                        self.assertEqual(set(numbers), {None})
                        continue
                    self.assertEqual(told, plain_far.told_of(numbers, 32))
                    endless = told[2] == 0 and 0 in told[1]
                    self.assertIs(name in room.tight_works(yard, goal), endless)
                    self.assertEqual(endless, 0 in numbers[32:])
                    seen.add((len(told[0]) > 0, len(told[1]) > 1, told[2] > 0))
                    for far in (FAR, FAR // 3):
                        times, rest = divmod(far - len(told[0]), len(told[1]))
                        self.assertEqual(room.room(yard, (far, name), goal), told[1][rest] + times * told[2])
                self.assertEqual(room.tight_works(yard, name), tuple(sorted(room.tight_works(yard, name))))
        self.assertGreater(len(seen), 5)

    def test_it_is_no_more_than_by_chains_listed_one_by_one(self):
        for yard, rows in small_yards(106, 60):
            weights = {need: dict(yard.works)[need[0]] + need[3] for need in yard.needs}
            for name in yard.names:
                listed = plain_far.chains(yard.needs, name, 4)
                for goal in yard.names:
                    for ship in (0, 6):
                        told = room.room(yard, (ship, name), goal)
                        begin = rows[ship][yard.names.index(name)]
                        for end, back, numbers in listed:
                            if end == goal:
                                days = sum(weights[yard.needs[number]] for number in numbers)
                                self.assertLessEqual(told, rows[ship + back][yard.names.index(goal)] - begin - days)

    def test_what_late_tells_of_it(self):
        for yard, rows in small_yards(107, 50):
            for name in yard.names:
                for goal in yard.names:
                    for ship in (0, 9):
                        day = rows[ship][yard.names.index(name)]
                        told = room.room(yard, (ship, name), goal)
                        if told is None:
                            self.assertIn(goal, late.unmoved(yard, ((ship, name, day + 9),), ()))
                            continue
                        self.assertIn(goal, late.unmoved(yard, ((ship, name, day + told),), ()))
                        self.assertNotIn(goal, late.unmoved(yard, ((ship, name, day + told + 1),), ()))
                        lasting = room.lasting_room(yard, (ship, name), goal)
                        if lasting is not None and lasting < 99:
                            changes = ((ship, name, lasting + 1),)
                            self.assertNotIn(goal, late.unmoved(yard, (), changes))

    def test_the_works_of_the_ring_that_binds_are_tight(self):
        for yard, _ in small_yards(108, 120):
            for goal in yard.names:
                ring = rings.ring(yard, goal)
                found = room.tight_works(yard, goal)
                if ring is not None and rings.pace(yard, goal) != (0, 1):
                    self.assertTrue({need[0] for need in rings.tight(yard, goal)} & set(found))

    def test_long_rounds(self):
        each = [room.room(WHEELED, (ship, "w"), "w") for ship in range(3)]
        self.assertEqual(each, [0, 0, 0])
        needs = tuple(sorted(WHEELS + tuple((name, "z", 1, 0) for name in "wxy")))
        yard = Yard(WHEELED.works, needs)
        self.assertEqual(tables.table(yard, (), ())[1], 840)
        numbers = [room.room(yard, (ship, "w"), "z") for ship in (0, 7, 8, 839, 840, 847)]
        firsts, again, more = room.rooms(yard, "w", "z")
        expected = [plain_far.number_at((firsts, again, more), ship) for ship in (0, 7, 8, 839, 840, 847)]
        self.assertEqual(numbers, expected)
        n, chain = room.binding(yard, (FAR, "w"), "z")
        self.assertIs(room.shows_binding(yard, (FAR, "w"), "z", (n, chain)), True)

    def test_equal_calls(self):
        for yard, _ in small_yards(109, 15):
            again = Yard(yard.works, yard.needs)
            for name in yard.names:
                for goal in yard.names:
                    self.assertEqual(room.binding(yard, (3, name), goal), room.binding(again, (3, name), goal))
                    self.assertEqual(room.rooms(yard, name, goal), room.rooms(again, name, goal))


class Bindings(unittest.TestCase):
    def right(self, yard, rows, spot, goal, value):
        told = room.room(yard, spot, goal)
        if told is None or value is None:
            return told is None and value is None
        return plain_far.is_binding(yard.works, yard.needs, rows, spot, goal, told, value)

    def test_what_binding_tells(self):
        for yard, _ in small_yards(111, 150):
            rows = rows_of(yard, (), (), 600)
            for name in yard.names:
                for goal in yard.names:
                    for ship in (0, 1, 8):
                        value = room.binding(yard, (ship, name), goal)
                        self.assertTrue(self.right(yard, rows, (ship, name), goal, value))
                        self.assertIs(room.shows_binding(yard, (ship, name), goal, value), True)

    def test_one_day_more_moves_the_ship_that_it_tells(self):
        for yard, rows in small_yards(112, 40):
            for name in yard.names:
                for goal in yard.names:
                    value = room.binding(yard, (5, name), goal)
                    if value is not None:
                        day = rows[5][yard.names.index(name)] + room.room(yard, (5, name), goal) + 1
                        self.assertEqual(late.moved_at(yard, ((5, name, day),), (), goal, value[0]), 1)

    def test_far_ships(self):
        for yard, _ in small_yards(113, 60):
            for name in yard.names:
                for goal in yard.names:
                    for ship in (FAR, FAR - 1, 10**9):
                        value = room.binding(yard, (ship, name), goal)
                        self.assertIs(room.shows_binding(yard, (ship, name), goal, value), True)
                        if value is not None:
                            worse = (value[0] + 1, value[1])
                            self.assertIs(room.shows_binding(yard, (ship, name), goal, worse), False)

    def test_near_to_bindings(self):
        seen = []
        for yard, rows in small_yards(114, 60):
            for name in yard.names[:2]:
                for goal in yard.names:
                    for value in near(room.binding(yard, (3, name), goal)):
                        shown = room.shows_binding(yard, (3, name), goal, value)
                        self.assertIs(shown, self.right(yard, rows, (3, name), goal, value), value)
                        seen.append(shown)
        self.assertGreater(seen.count(False), 1000)
        self.assertIn(True, seen)

    def test_all_short_chains(self):
        seen = []
        for yard, rows in small_yards(115, 50):
            for name in yard.names:
                listed = plain_far.chains(yard.needs, name, 3)
                for goal in yard.names:
                    for _, back, numbers in listed:
                        for n in (2 + back, 3 + back):
                            shown = room.shows_binding(yard, (2, name), goal, (n, numbers))
                            self.assertIs(shown, self.right(yard, rows, (2, name), goal, (n, numbers)))
                            seen.append(shown)
        self.assertGreater(seen.count(True), 50)

    def test_longer_than_the_least(self):
        value = (5, (2, 1))
        self.assertIs(room.shows_binding(HULLS, (5, "hull"), "float", value), True)
        for times in range(1, 60):
            longer = (5 + times, (2,) + (0,) * times + (1,))
            self.assertIs(room.shows_binding(HULLS, (5, "hull"), "float", longer), True)
            slower = (5 + times, (3,) * times + (2, 1))
            self.assertIs(room.shows_binding(HULLS, (5, "hull"), "float", slower), False)

    def test_any_value(self):
        for value in ANY + ((5, [2, 1]), [5, (2, 1)], (True, (2, 1)), (5, (2, True)), (5, (2, -3)), (5, (2, 4)), (5, ())):
            self.assertIs(room.shows_binding(HULLS, (5, "hull"), "float", value), False, value)
        for value in ((-5, (2, 1)), (10**30, (2, 1)), (5, (1,)), (5, (2,)), (5, (2, 1), ()), ("5", (2, 1)), (5, None)):
            self.assertIs(room.shows_binding(HULLS, (5, "hull"), "float", value), False, value)
        for n, shown in ((1, True), (True, False)):
            self.assertIs(room.shows_binding(HULLS, (1, "hull"), "float", (n, (2, 1))), shown)
        for n, shown in ((0, True), (False, False)):
            self.assertIs(room.shows_binding(HULLS, (0, "hull"), "float", (n, (2, 1))), shown)
        for value in ANY + ((5, ()), (5, (1,))):
            self.assertIs(room.shows_binding(HULLS, (5, "float"), "dock", value), value is None, value)


class Pairs(unittest.TestCase):
    def test_along_a_chain(self):
        self.assertEqual(room.pair_room(HULLS, (3, "hull"), (4, "hull"), "float"), (3, 4, 4))
        self.assertEqual(room.pair_room(HULLS, (4, "hull"), (3, "hull"), "float"), (4, 3, 4))
        self.assertEqual(room.pair_room(HULLS, (3, "dock"), (4, "hull"), "float"), (0, 4, None))
        self.assertEqual(room.pair_room(HULLS, (3, "hull"), (3, "dock"), "float"), (3, 0, 3))
        self.assertEqual(room.pair_room(HULLS, (5, "hull"), (5, "float"), "float"), (5, None, None))

    def test_ships_far_on_and_far_apart(self):
        one, other = (FAR - 1000, "hull"), (FAR, "hull")
        self.assertEqual(room.pair_room(HULLS, one, other, "float"), (FAR - 1000, FAR, FAR))
        self.assertEqual(room.pair_room(HULLS, other, one, "float"), (FAR, FAR - 1000, FAR))
        for apart in (1001, 2000, FAR):
            for both in (((FAR - apart, "hull"), other), (other, (FAR - apart, "hull"))):
                with self.assertRaises(TooLong) as caught:
                    room.pair_room(HULLS, *both, "float")
                self.assertIsNone(caught.exception.value)

    def check_pair(self, yard, rows, one, other, goal):
        """Hold what pair_room tells against days more at both; tell whether the days of both count together."""
        first, second, together = room.pair_room(yard, one, other, goal)
        self.assertEqual(first, room.lasting_room(yard, one, goal))
        self.assertEqual(second, room.lasting_room(yard, other, goal))
        self.assertEqual(room.pair_room(yard, other, one, goal), (second, first, together))
        most = [14 if own is None else own for own in (first, second)]
        for m in {0, 1, most[0] // 2, most[0], most[0] + 1}:
            sums = {most[1], most[1] + 1, 0} | (set() if together is None else {together - m, together - m + 1})
            for n in (own for own in sums if own >= 0):
                fits = (first is None or m <= first) and (second is None or n <= second)
                fits = fits and (together is None or m + n <= together)
                self.assertIs(moves(yard, rows, (), (one + (m,), other + (n,)), (goal,)), not fits)
        return together is not None and together < sum(most)

    def test_against_what_changes_move(self):
        rng = random.Random(121)
        seen = []
        for yard, rows in small_yards(122, 120):
            pairs = []
            for name in yard.names:
                ends = {(end, back) for end, back, _ in plain_far.chains(yard.needs, name, 2)} - {(name, 0)}
                ends |= {(rng.choice(yard.names), 3)}
                pairs += [((ship, name), (ship + back, end)) for end, back in sorted(ends) for ship in (0, 1, 4)]
            for one, other in rng.sample(pairs, min(len(pairs), 4)):
                self.check_pair(yard, rows, one, other, rng.choice(yard.names))
            for goal in yard.names:
                rooms = {spot: room.lasting_room(yard, spot, goal) or 0 for pair in pairs for spot in pair}
                wide = [(one, other) for one, other in pairs if rooms[one] and rooms[other]]
                seen.extend(self.check_pair(yard, rows, one, other, goal) for one, other in wide[:4])
        self.assertGreater(seen.count(True), 25)

    def test_same(self):
        for spot in ((3, "hull"), (0, "dock"), (FAR, "float")):
            with self.assertRaises(Same) as caught:
                room.pair_room(HULLS, spot, (spot[0], spot[1]), "float")
            self.assertIs(caught.exception.value, spot)

    def test_errors_in_sequence(self):
        wrong = (-1, "hull")
        late_table = wheels((9, 4), (9, 2), (7,))
        one, other = (3, "a0"), (5000, "a0")
        for arguments, kind, value in (
            ((None, wrong, wrong, "zz"), NoYard, None),
            ((HULLS, wrong, [], "zz"), BadSpot, wrong),
            ((HULLS, (3, "hull"), wrong, "zz"), BadSpot, wrong),
            ((HULLS, wrong, wrong, "float"), BadSpot, wrong),
            ((HULLS, (3, "hull"), (3, "hull"), "zz"), Same, (3, "hull")),
            ((HULLS, (3, "hull"), (9999, "hull"), "zz"), NoWork, "zz"),
            ((late_table, one, one, "a0"), Same, one),
            ((late_table, one, other, "zz"), NoWork, "zz"),
            ((late_table, one, other, "a0"), TooLong, None),
            ((late_table, one, (3, "a1"), "a0"), TooLong, None),
        ):
            with self.assertRaises(kind) as caught:
                room.pair_room(*arguments)
            self.assertEqual(caught.exception.value, value)


class TooLongTables(unittest.TestCase):
    def test_behind_all_other_errors(self):
        yard = wheels((9, 4), (9, 2), (7,))
        spot = (3, "a0")
        for look, arguments in (
            (room.room, (spot, "a0")),
            (room.room, (spot, "z")),
            (room.lasting_room, (spot, "a1")),
            (room.free_room, (spot,)),
            (room.free_room, ((0, "z"),)),
            (room.rooms, ("a0", "a1")),
            (room.rooms, ("z", "a1")),
            (room.tight_works, ("z",)),
            (room.binding, (spot, "a0")),
            (room.shows_binding, (spot, "a0", None)),
            (room.shows_binding, (spot, "a0", (3, ()))),
            (room.pair_room, (spot, (3, "a1"), "a0")),
        ):
            with self.assertRaises(TooLong) as caught:
                look(yard, *arguments)
            self.assertIsNone(caught.exception.value)
            if look is not room.free_room:
                at = 2 if look is room.pair_room else 0 if look is room.tight_works else 1
                with self.assertRaises(NoWork) as caught:
                    look(yard, *arguments[:at], "zz", *arguments[at + 1 :])
                self.assertEqual(caught.exception.value, "zz")

    def test_just_short_enough(self):
        yard = wheels((9, 9, 9, 9, 1), (9, 9, 9))
        self.assertEqual(room.room(yard, (0, "z"), "a0"), None)
        for name in ("a0", "a3"):
            told = room.binding(yard, (FAR, name), "a0")
            self.assertIs(room.shows_binding(yard, (FAR, name), "a0", told), True)


if __name__ == "__main__":
    unittest.main()
