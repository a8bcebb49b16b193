"""What one function tells agrees with what others tell, across all sections, and the guarantees of section 3."""

import random
import unittest
from fractions import Fraction

from afloatintime import alike, days, docks, late, quickening, rings, room, tables, wishes
from afloatintime.desk import Desk
from afloatintime.keeping import Log
from afloatintime.pictures import chart
from afloatintime.yards import Yard, read_yard
from tests.samples import needs_for, random_rows, random_yards
from tests.test_rings import large_yards

FAR = 10**18


def spots(rng, yard, many, ships=8):
    return [(rng.randrange(ships), rng.choice(yard.names)) for _ in range(many)]


class DaysAndTables(unittest.TestCase):
    def test_days_near_and_far(self):
        rng = random.Random("days and tables")
        for yard in random_yards("days and tables", 40):
            delays, changes = random_rows(rng, yard, 5, 0, 40), random_rows(rng, yard, 5, 1, 20)
            rows = days.earliest_days(yard, delays, changes, 60)
            log = Log(yard)
            for ship, name in spots(rng, yard, 4, 60):
                day = rows[ship][yard.names.index(name)]
                self.assertEqual(days.earliest_day(yard, delays, changes, name, ship), day)
                self.assertEqual(tables.day_of(yard, delays, changes, name, ship), day)
                trail = days.reason(yard, delays, changes, name, ship)
                self.assertEqual(days.worth(yard, delays, changes, trail), (ship, name, day))
                self.assertEqual(log.day(name, ship), tables.day_of(yard, (), (), name, ship))
                moved = late.moved_at(yard, delays, changes, name, ship)
                self.assertEqual(moved, day - tables.day_of(yard, (), (), name, ship))
            for name in yard.names:
                _, turn = tables.steady(yard, delays, changes, name)
                top, bottom = rings.pace(yard, name)
                self.assertEqual(turn * top % bottom, 0)
                far = tables.day_of(yard, delays, changes, name, FAR)
                ahead = tables.day_of(yard, delays, changes, name, FAR - turn)
                self.assertEqual(far - ahead, turn * top // bottom)
                if top:
                    day = tables.day_of(yard, delays, changes, name, FAR // 1000)
                    many = tables.ships_by(yard, delays, changes, name, day)
                    self.assertLess(abs(many - FAR // 1000), 5000)

    def test_a_plan_of_earliest_days_breaks_nothing(self):
        rng = random.Random("plans")
        for yard in random_yards("plans", 40):
            delays, changes = random_rows(rng, yard, 5, 0, 40), random_rows(rng, yard, 5, 1, 20)
            rows = days.earliest_days(yard, delays, changes, 9)
            self.assertIsNone(days.broken(yard, delays, changes, rows))
            self.assertIs(days.is_earliest(yard, delays, changes, rows), True)

    def test_more_than_one_way_to_say_a_yard(self):
        for yard in random_yards("texts", 20):
            again = read_yard(yard.text)
            self.assertEqual(tables.table(yard, (), ()), tables.table(again, (), ()))
            self.assertIsNone(alike.apart(yard, again, yard.names))
            self.assertIs(alike.alike_always(yard, again), True)


class LateAndRoom(unittest.TestCase):
    def test_what_room_lets_moves_nothing_and_a_day_more_does(self):
        rng = random.Random("room and late")
        found = [0, 0]
        for yard in random_yards("room and late", 40):
            for ship, name in spots(rng, yard, 3):
                goal = rng.choice(yard.names)
                day = tables.day_of(yard, (), (), name, ship)
                most = room.room(yard, (ship, name), goal)
                found[most is None] += 1
                if most is None:
                    self.assertEqual(late.last_moved(yard, ((ship, name, day + 60),), (), goal), "none")
                    continue
                self.assertEqual(late.last_moved(yard, ((ship, name, day + most),), (), goal), "none")
                self.assertNotEqual(late.last_moved(yard, ((ship, name, day + most + 1),), (), goal), "none")
                end, chain = room.binding(yard, (ship, name), goal)
                self.assertEqual(late.moved_at(yard, ((ship, name, day + most + 1),), (), goal, end), 1)
                trail = (ship, name, tuple(yard.needs[number] for number in chain))
                delay = ((ship, name, day + most),)
                self.assertEqual(days.worth(yard, delay, (), trail)[:2], (end, goal))
                self.assertEqual(days.worth(yard, delay, (), trail)[2], tables.day_of(yard, (), (), goal, end))
                lasting = room.lasting_room(yard, (ship, name), goal)
                self.assertTrue(lasting is None or lasting >= most)
                if lasting is not None and lasting < 99:
                    if lasting:
                        self.assertEqual(late.last_moved(yard, (), ((ship, name, lasting),), goal), "none")
                    self.assertNotEqual(late.last_moved(yard, (), ((ship, name, lasting + 1),), goal), "none")
        self.assertGreater(min(found), 20)

    def test_rooms_and_tight_works(self):
        rng = random.Random("rooms")
        for yard in random_yards("rooms", 30):
            goal = rng.choice(yard.names)
            tight = room.tight_works(yard, goal)
            for name in yard.names:
                told = room.rooms(yard, name, goal)
                self.assertEqual(told is not None and told[2] == 0 and 0 in told[1], name in tight)
                self.assertEqual(told is None, room.room(yard, (FAR, name), goal) is None)
            # Far on goal is bound by a ring that has its pace: some work of such a ring has no room of endlessly many ships.
            if rings.pace(yard, goal) != (0, 1):
                self.assertTrue({name for need in rings.tight(yard, goal) for name in need[:2]} & set(tight))

    def test_quiet_and_unmoved(self):
        rng = random.Random("quiet")
        for yard in random_yards("quiet", 40):
            delays, changes = random_rows(rng, yard, 4, 0, 30), random_rows(rng, yard, 4, 1, 9)
            lasts = {name: late.last_moved(yard, delays, changes, name) for name in yard.names}
            still = tuple(name for name in yard.names if lasts[name] == "none")
            self.assertEqual(late.unmoved(yard, delays, changes), still)
            numbers = [last for last in lasts.values() if last != "none"]
            quiet = None if "always" in numbers else max(numbers, default=-1) + 1
            self.assertEqual(late.quiet_from(yard, delays, changes), quiet)
            if quiet is not None:
                self.assertEqual(
                    tables.day_of(yard, delays, changes, yard.names[0], quiet + 777),
                    tables.day_of(yard, (), (), yard.names[0], quiet + 777),
                )

    def test_told_late_leaves_what_is_late(self):
        # Begins that are told on the days that a DELAY brings, in whatever sequence, move what the DELAY moves.
        rng = random.Random("log and late")
        for yard in random_yards("log and late", 30):
            ship, name = spots(rng, yard, 1)[0]
            day = tables.day_of(yard, (), (), name, ship) + rng.randint(0, 30)
            log = Log(yard)
            log.began(name, ship, day)
            for own in yard.names:
                for later in range(12):
                    moved = late.moved_at(yard, ((ship, name, day),), (), own, later)
                    self.assertEqual(log.day(own, later), tables.day_of(yard, (), (), own, later) + moved)
            self.assertEqual(log.clashes(), ())


class Wishes(unittest.TestCase):
    def test_wishes_and_room(self):
        # Wished as early as can be, of all ships up to one, a goal lets no more room than for ever.
        rng = random.Random("wishes and room")
        for yard in random_yards("wishes and room", 40):
            goal = rng.choice(yard.names)
            ahead = [(ship, goal, tables.day_of(yard, (), (), goal, ship)) for ship in range(24)]
            for ship, name in spots(rng, yard, 3):
                most = room.room(yard, (ship, name), goal)
                slack = wishes.slack(yard, tuple(ahead), name, ship)
                if most is None:
                    self.assertIsNone(slack)
                elif slack is not None:
                    self.assertGreaterEqual(slack, most)
                    end = room.binding(yard, (ship, name), goal)[0]
                    if end < 24:
                        self.assertEqual(slack, most)
            self.assertIsNone(wishes.too_late(yard, tuple(ahead)))

    def test_wishes_and_days(self):
        rng = random.Random("wishes and days")
        for yard in random_yards("wishes and days", 40):
            ship, name = spots(rng, yard, 1)[0]
            day = tables.day_of(yard, (), (), name, ship)
            self.assertIsNone(wishes.too_late(yard, ((ship, name, day),)))
            if day:
                number, chain = wishes.too_late(yard, ((ship, name, day - 1),))
                needs = tuple(yard.needs[at] for at in chain)
                start = ship - sum(need[2] for need in needs)
                trail = (start, needs[0][0], needs)
                self.assertEqual((number, days.worth(yard, (), (), trail)), (0, (ship, name, day)))

    def test_rhythms_and_tables(self):
        rng = random.Random("rhythms")
        for yard in random_yards("rhythms", 40):
            name = rng.choice(yard.names)
            pace = rings.pace(yard, name)
            day = wishes.first_day(yard, name, pace)
            rows = [tables.day_of(yard, (), (), name, ship) for ship in range(120)]
            told = [row - ship * Fraction(*pace) for ship, row in enumerate(rows)]
            self.assertLess(day - 1, max(told))
            self.assertGreaterEqual(day, max(told))
            self.assertIs(wishes.can_keep(yard, (name, day, pace)), True)
            leading = [own for own, _ in rings.heights(yard, name)]
            for own in yard.names:
                for ship in (0, 5, 50):
                    latest = wishes.latest_in(yard, (name, day, pace), own, ship)
                    if own in leading:
                        self.assertGreaterEqual(latest, tables.day_of(yard, (), (), own, ship))
                    else:
                        self.assertIsNone(latest)


class DocksAndQuickening(unittest.TestCase):
    def test_more_docks_and_rhythms(self):
        rng = random.Random("docks and rhythms")
        for yard in random_yards("docks and rhythms", 40, most_needs=7):
            if not yard.needs:
                continue
            numbers = rng.sample(range(len(yard.needs)), min(2, len(yard.needs)))
            held = tuple((f"d{at}", (number,)) for at, number in enumerate(sorted(numbers)))
            name = rng.choice(yard.names)
            paces = docks.best_paces(yard, held, name, 3)
            self.assertEqual(paces[0], rings.pace(yard, name))
            for total, pace in enumerate(paces):
                if pace is None:
                    continue
                self.assertIsNone(docks.too_few(yard, held, name, pace, total))
                more = docks.fewest(yard, held, name, pace)[0]
                wide = docks.with_more(yard, held, more)
                day = wishes.first_day(wide, name, pace)
                self.assertIs(wishes.can_keep(wide, (name, day, pace)), True)
                if sum(more):
                    tree = docks.too_few(yard, held, name, pace, sum(more) - 1)
                    self.assertIsNotNone(tree)
                    # The LOOP of the whole TREE is a ring that bars the RHYTHM without any more.
                    loop = tree[0]
                    way = wishes.never(yard, (name, 10**6, pace))
                    self.assertEqual(way[0], "ring")
                    self.assertIs(
                        wishes.shows_never(yard, (name, 0, pace), ("ring", loop + self.way(yard, loop, name), len(loop))), True
                    )

    def way(self, yard, loop, name):
        """The numbers of a CHAIN from the LOOP's work to this one."""
        ahead = [(yard.needs[loop[0]][0], ())]
        for own, numbers in ahead:
            if own == name:
                return numbers
            if len(numbers) < len(yard.names):
                ahead.extend((need[1], numbers + (at,)) for at, need in enumerate(yard.needs) if need[0] == own)
        raise AssertionError("no way")

    def test_more_docks_never_come_later(self):
        rng = random.Random("more")
        for yard in random_yards("more", 30):
            if yard.needs:
                held = (("one", (rng.randrange(len(yard.needs)),)),)
                if yard.needs[held[0][1][0]][2] < 9:
                    wide = docks.with_more(yard, held, (1,))
                    rows = zip(days.earliest_days(yard, (), (), 20), days.earliest_days(wide, (), (), 20))
                    self.assertTrue(all(one >= other for row, wider in rows for one, other in zip(row, wider)))

    def test_quickened_yards(self):
        rng = random.Random("quickened")
        bought_some = barred = 0
        for yard in random_yards("quickened", 90, most_needs=9):
            name = rng.choice(yard.names)
            prices = tuple(
                (own, rng.randint(1, 9), max([0] + [-need[3] for need in yard.needs if need[0] == own]))
                for own in yard.names
            )
            top, bottom = rings.pace(yard, name)
            for pace in {0, top // bottom // 2, top // bottom - 1, top // bottom} - {-1}:
                bought = quickening.cheapest(yard, prices, name, pace)
                if bought is None:
                    ring = quickening.bar(yard, prices, name, pace)
                    barred += 1
                    spans = [(own, last - low) for (own, last), (_, _, low) in zip(yard.works, prices)]
                    least = quickening.quickened(yard, prices, tuple((own, most) for own, most in spans if most))
                    self.assertGreater(Fraction(*rings.pace(least, name)), pace)
                    self.assertIs(all(need in least.needs for need in ring), True)
                    self.assertIsNone(wishes.first_day(least, name, (pace, 1)))
                else:
                    quick = quickening.quickened(yard, prices, bought)
                    bought_some += bool(bought)
                    self.assertIsNotNone(wishes.first_day(quick, name, (pace, 1)))
                    self.assertLessEqual(Fraction(*rings.pace(quick, name)), pace)
                    told = quickening.flow(yard, prices, name, pace)
                    self.assertEqual(
                        quickening.flow_worth(yard, prices, name, pace, told), quickening.cost(yard, prices, bought)
                    )
        self.assertGreater(min(bought_some, barred), 10)


class LeanYards(unittest.TestCase):
    def test_all_that_is_told_of_a_lean_yard_is_told_of_the_yard(self):
        rng = random.Random("lean")
        some = 0
        for yard in random_yards("lean whole", 60, most_needs=12):
            kept = alike.lean(yard)
            some += kept != yard
            delays, changes = random_rows(rng, yard, 4, 0, 30), random_rows(rng, yard, 4, 1, 9)
            self.assertEqual(tables.table(kept, delays, changes), tables.table(yard, delays, changes))
            self.assertEqual(late.moved(kept, delays, changes), late.moved(yard, delays, changes))
            self.assertEqual(rings.paces(kept), rings.paces(yard))
            self.assertEqual(chart(kept, (0, 3, 4), 2, 50), chart(yard, (0, 3, 4), 2, 50))
            goal = rng.choice(yard.names)
            for name in yard.names:
                self.assertEqual(room.rooms(kept, name, goal), room.rooms(yard, name, goal))
                self.assertEqual(room.free_room(kept, (3, name)), room.free_room(yard, (3, name)))
                told = wishes.latest(kept, ((5, goal, 50),), name, 2)
                self.assertEqual(told, wishes.latest(yard, ((5, goal, 50),), name, 2))
            # Told begins that clash may break a NEED without breaking the CHAIN beside it: so here none does.
            rows = days.earliest_days(yard, delays, (), 9)
            log, other = Log(kept), Log(yard)
            for ship, name, _ in delays:
                log.began(name, ship, rows[ship][yard.names.index(name)])
                other.began(name, ship, rows[ship][yard.names.index(name)])
            self.assertEqual([log.day(goal, ship) for ship in range(9)], [other.day(goal, ship) for ship in range(9)])
        self.assertGreater(some, 15)

    def test_a_need_that_lengthens_nothing_that_is_late(self):
        # Idle NEEDS hold as long as nothing is late: the table is the same without each of them.
        for yard in random_yards("idle whole", 30):
            for at in alike.idle(yard):
                fewer = Yard(yard.works, yard.needs[:at] + yard.needs[at + 1 :])
                self.assertEqual(tables.table(fewer, (), ())[2][:1], tables.table(yard, (), ())[2][:1])
                self.assertIsNone(alike.apart(yard, fewer, yard.names))


class LargeYards(unittest.TestCase):
    def test_twelve_works_and_forty_needs(self):
        rng = random.Random("large whole")
        for yard in large_yards("large whole", 8):
            name = yard.names[rng.randrange(len(yard.names))]
            self.assertIs(rings.shows_ring(yard, name, rings.ring(yard, name)), True)
            self.assertIs(rings.shows_heights(yard, name, rings.heights(yard, name)), True)
            told = tables.table(yard, (), ())
            self.assertIs(tables.shows_table(yard, (), (), told), True)
            late_day = days.earliest_day(yard, (), (), name, 3) + 40
            desk = Desk(yard.text + f"\ndeeds\nbegan {name} 3 {late_day}")
            top, bottom = rings.pace(yard, name)
            self.assertEqual(desk.say(f"pace {name}"), str(Fraction(top, bottom)))
            self.assertEqual(desk.say(f"early {name} 50"), str(days.earliest_day(yard, (), (), name, 50)))
            self.assertEqual(desk.say(f"day {name} 3"), str(late_day))
            delayed = days.earliest_day(yard, ((3, name, late_day),), (), name, 30)
            self.assertEqual(desk.say(f"day {name} 30"), str(delayed))
            held = (("one", (0,)), ("two", (1, 2)), ("xyz", (3, 7)), ("z", (39,)) if len(yard.needs) > 39 else ("z", (4,)))
            best = docks.best_paces(yard, held, name, 2)
            for pace in best:
                if pace is not None:
                    more = docks.fewest(yard, held, name, pace)
                    self.assertIs(docks.shows_too_few(yard, held, name, pace, sum(more[0]), None), True)
            tree = docks.too_few(yard, held, name, (0, 1), 3)
            self.assertIs(docks.shows_too_few(yard, held, name, (0, 1), 3, tree), True)
            self.assertIs(alike.alike_always(yard, alike.lean(yard)), True)

    def test_needs_that_are_made_for_it(self):
        # The helper of these tests makes no ring without ships between.
        rng = random.Random("made")
        for _ in range(20):
            works = tuple((name, rng.randint(0, 9)) for name in "abc")
            Yard(works, needs_for(rng, works, 6))


if __name__ == "__main__":
    unittest.main()
