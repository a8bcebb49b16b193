"""Section 16: a desk."""

import random
import unittest

from afloatintime import rings, tables
from afloatintime.benches import Bench
from afloatintime.desk import Desk
from afloatintime.errors import BadJournal, BadTask
from afloatintime.journals import journal, read_journal
from afloatintime.yards import read_yard
from tests import plain_live
from tests.samples import ANY, random_yard
from tests.test_benches import WRONG_LINES, YARD, Ended, random_line, state, told_of
from tests.test_tables import FAR, wheels, yard_of

TEXT = YARD.text + "\ndeeds"
WRONG_ASKS = (
    "day",
    "day dock",
    "day dock 1 2",
    "day  dock 1",
    "day dock 1 ",
    "day dock 01",
    "day dock -0",
    "day dock +1",
    "day dock one",
    "day Dock 1",
    "day 1 dock",
    "day dock 1\n",
    "done",
    "done dock",
    "done dock 1 2",
    "done 1",
    "early dock",
    "early dock 1 2",
    "early dock 1.0",
    "pace",
    "pace dock 1",
    "pace dock ",
    "pace 1",
    "pace dock\n",
    "pace Dock",
    "clashes ",
    " clashes",
    "clashes dock",
    "clashes\n",
    "Clashes",
    "undo ",
    "undo 1",
    "undo\n",
    "redo ",
    "redo 2",
    "UNDO",
    "none",
    "copy",
    "steady dock",
    "late dock 1",
)


class Lines(unittest.TestCase):
    def test_answers(self):
        desk = Desk(TEXT)
        for line, told in (
            ("day dock 2", "9"),
            ("done dock 2", "14"),
            ("early dock 2", "9"),
            ("pace dock", "3"),
            ("clashes", "none"),
            ("began dock 2 4", "done"),
            ("day dock 2", "4"),
            ("done dock 2", "9"),
            ("early dock 2", "9"),
            ("clashes", "2 dock 9"),
            ("lasted dock 2 0", "done"),
            ("done dock 2", "4"),
            ("began build 0 1", "done"),
            ("began build 1 0", "done"),
            ("clashes", "1 build 4; 2 dock 9"),
            ("undo", "done"),
            ("clashes", "2 dock 10"),
            ("redo", "done"),
            ("unsay dock 2", "done"),
            ("clashes", "1 build 4"),
        ):
            answer = desk.say(line)
            self.assertEqual((line, answer), (line, told))
            self.assertIs(type(answer), str)
        self.assertEqual(desk.bench.deeds, 5)

    def test_paces_are_fractions_brought_down(self):
        yard = yard_of({"a": 3, "b": 0, "c": 6}, ("a", "a", 2, 0), ("c", "c", 4, 0), ("b", "b", 1, 0))
        desk = Desk(yard.text + "\ndeeds")
        self.assertEqual([desk.say(f"pace {name}") for name in "abc"], ["3/2", "0", "3/2"])

    def test_far_on(self):
        desk = Desk(TEXT)
        self.assertEqual(desk.say(f"early dock {FAR}"), str(3 * FAR + 3))
        self.assertEqual(desk.say("day dock 999"), "3000")
        self.assertEqual(desk.say("early dock 1000"), "3003")

    def test_early_is_told_by_the_yard_alone(self):
        desk = Desk(TEXT + "\nbegan build 0 500\nlasted build 1 90")
        self.assertEqual([desk.say("early dock 4"), desk.say("day dock 4")], ["15", "602"])

    def test_what_is_raised(self):
        desk = Desk(TEXT + "\nbegan dock 2 10")
        before = state(desk.bench)
        for line, kind, value in (
            ("day zz -1", "NoWork", "zz"),
            ("day dock -1", "BadShip", -1),
            ("day dock 1000", "BadShip", 1000),
            ("done zz 1000", "NoWork", "zz"),
            ("done dock 1000", "BadShip", 1000),
            ("early zz -1", "NoWork", "zz"),
            ("early dock -1", "BadShip", -1),
            (f"early dock {FAR + 1}", "BadShip", FAR + 1),
            ("pace zz", "NoWork", "zz"),
            ("began zz 1 1", "NoWork", "zz"),
            ("began dock 2 9", "Taken", (2, "dock")),
            ("lasted dock 2 1000", "BadDays", 1000),
            ("unsay build 2", "NotTold", (2, "build")),
            ("redo", "NothingToRedo", None),
        ):
            self.assertEqual(repr(told_of(lambda: desk.say(line))), repr((kind, value)))
            self.assertEqual(state(desk.bench), before)
        desk.say("undo")
        self.assertEqual(told_of(lambda: desk.say("undo")), ("NothingToUndo", None))

    def test_a_table_that_is_too_long(self):
        desk = Desk(wheels((9, 4), (9, 2), (7,)).text + "\ndeeds")
        self.assertEqual(told_of(lambda: desk.say("early zz -1")), ("NoWork", "zz"))
        self.assertEqual(told_of(lambda: desk.say("early z -1")), ("BadShip", -1))
        self.assertEqual(told_of(lambda: desk.say("early z 1")), ("TooLong", None))
        self.assertEqual([desk.say("day z 1"), desk.say("pace z")], ["0", "0"])

    def test_lines_without_a_form(self):
        desk = Desk(TEXT + "\nbegan dock 2 10")
        desk.say("began dock 3 10")
        desk.say("undo")
        before = state(desk.bench)
        asks = ("undo", "redo", "clashes", "day dock 1")
        wrong = tuple(line for line in WRONG_LINES if line not in asks) + WRONG_ASKS
        for value in wrong + tuple(value for value in ANY if not isinstance(value, str)) + ("", "zz", "7", b"undo"):
            with self.assertRaises(BadTask) as caught:
                desk.say(value)
            self.assertIs(caught.exception.value, value)
        self.assertEqual(state(desk.bench), before)

    def test_a_journal(self):
        for value in ANY + (YARD.text, TEXT + "\nundo", TEXT + "\n"):
            with self.assertRaises(BadJournal) as caught:
                Desk(value)
            with self.assertRaises(BadJournal) as again:
                read_journal(value)
            self.assertEqual(repr(caught.exception.value), repr(again.exception.value))
        desk = Desk(text=TEXT + "\nbegan dock 2 10")
        self.assertEqual(journal(desk.bench), TEXT + "\nbegan dock 2 10")

    def test_the_very_bench(self):
        desk = Desk(TEXT)
        bench = desk.bench
        self.assertIs(type(bench), Bench)
        desk.say("began dock 2 10")
        self.assertIs(desk.bench, bench)
        self.assertEqual(bench.deeds, 1)
        bench.do("lasted dock 2 10")
        self.assertEqual(desk.say("done dock 2"), "20")
        desk.say("undo")
        bench.undo()
        desk.say("redo")
        self.assertEqual((bench.deeds, desk.say("day dock 2")), (1, "10"))

    def test_in_trials(self):
        desk = Desk(TEXT)
        told = desk.bench.tried(lambda own: [desk.say("began dock 2 50"), desk.say("day dock 2"), desk.say("day dock 4")])
        self.assertEqual(told, ["done", "50", "55"])
        self.assertEqual((desk.say("day dock 4"), desk.bench.deeds), ("15", 0))

        def look(bench):
            desk.say("began dock 2 50")
            bench.keep()
            desk.say("lasted dock 2 0")
            desk.say("undo")

        desk.bench.tried(look)
        self.assertEqual((desk.say("day dock 4"), desk.say("redo"), desk.say("day dock 4")), ("55", "done", "50"))
        with self.assertRaises(Ended):
            desk.bench.tried(self.end(desk))
        self.assertEqual(desk.say("day dock 4"), "50")

    def end(self, desk):
        def look(bench):
            desk.say("undo")
            desk.say("undo")
            bench.keep()
            raise Ended()

        return look

    def test_a_log_of_the_bench_has_used_no_steps(self):
        desk = Desk(TEXT + "\nbegan dock 2 50")
        desk.say("day dock 9")
        desk.say("clashes")
        log = desk.bench.log()
        self.assertEqual(log.work, 0)
        log.day("dock", 1)
        self.assertEqual((log.work, desk.bench.log().work, desk.bench.copy().log().work), (2, 0, 0))

    def test_two_desks(self):
        one, other = Desk(TEXT), Desk(TEXT)
        one.say("began dock 2 50")
        self.assertEqual((other.say("day dock 2"), other.bench.deeds), ("9", 0))


class AtRandom(unittest.TestCase):
    def test_against_plain_answers(self):
        rng = random.Random("desk")
        asked = {}
        for _ in range(60):
            yard = random_yard(rng, most_works=4, most_needs=6)
            desk, plainly = Desk(yard.text + "\ndeeds"), plain_live.PlainBench(yard.works, yard.needs)
            for _ in range(40):
                name, ship = rng.choice(yard.names + ("zz",)), rng.randint(-1, 9)
                line = rng.choice(
                    (random_line(rng, yard, 5),) * 6
                    + ("undo", "undo", "redo", "redo", "clashes", f"day {name} {ship}", f"done {name} {ship}", f"early {name} {ship}")
                    + (f"pace {name}", f"day {name} 1000", f"early {name} {FAR + 1}", rng.choice(WRONG_ASKS))
                )
                told = told_of(lambda: desk.say(line))
                self.assertEqual(told, plain_live.says(plainly, line), (yard.text, line))
                asked[line.split(" ")[0]] = asked.get(line.split(" ")[0], 0) + isinstance(told, str)
                if rng.random() < 0.05:
                    desk = Desk(journal(desk.bench))
                    plainly.undone = []
            self.assertEqual(journal(desk.bench), plainly.text())
        for word in ("began", "lasted", "unsay", "undo", "redo", "clashes", "day", "done", "early", "pace"):
            self.assertGreater(asked[word], 20, word)

    def test_answers_are_those_of_the_functions(self):
        rng = random.Random("functions")
        for _ in range(40):
            yard = random_yard(rng)
            desk = Desk(yard.text + "\ndeeds")
            for _ in range(10):
                told_of(lambda: desk.say(random_line(rng, yard, 6)))
            log = desk.bench.log()
            again = read_yard(yard.text)
            for name in yard.names:
                ship = rng.randint(0, 12)
                self.assertEqual(desk.say(f"day {name} {ship}"), str(log.day(name, ship)))
                self.assertEqual(desk.say(f"done {name} {ship}"), str(log.done(name, ship)))
                self.assertEqual(desk.say(f"early {name} {ship}"), str(tables.day_of(again, (), (), name, ship)))
                top, bottom = rings.pace(again, name)
                self.assertEqual(desk.say(f"pace {name}"), f"{top}/{bottom}" if bottom > 1 else str(top))
            clashes = [f"{ship} {name} {day}" for ship, name, day in log.clashes()]
            self.assertEqual(desk.say("clashes"), "; ".join(clashes) or "none")


if __name__ == "__main__":
    unittest.main()
