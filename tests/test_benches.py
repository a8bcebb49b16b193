"""Section 16: benches, and the guarantee (h) of section 3."""

import random
import unittest

from afloatintime import errors
from afloatintime.benches import Bench
from afloatintime.errors import BadTask, NoBlock, NothingToRedo, NothingToUndo, NotTold, NoYard, Taken
from afloatintime.journals import journal, read_journal
from afloatintime.keeping import Log
from afloatintime.yards import Yard, read_yard
from tests import plain_live
from tests.samples import ANY, random_yard

NEEDS = (("build", "build", 1, 0), ("build", "dock", 0, 0), ("dock", "dock", 2, 0))
YARD = Yard((("build", 3), ("dock", 5)), NEEDS)
WRONG_LINES = (
    "",
    " ",
    "began",
    "began dock",
    "began dock 1",
    "began dock 1 2 3",
    "began  dock 1 2",
    " began dock 1 2",
    "began dock 1 2 ",
    "began\tdock 1 2",
    "began dock 1 2\n",
    "began dock 1\n2",
    "\nbegan dock 1 2",
    "Began dock 1 2",
    "began Dock 1 2",
    "began dock56789 1 2",
    "began 1dock 1 2",
    "began do_k 1 2",
    "began 1 dock 2",
    "began dock 01 2",
    "began dock 1 +2",
    "began dock 1 -0",
    "began dock 1 2.0",
    "began dock 1 two",
    "began dock 1 1e3",
    "began dock 1 1_000",
    "began dock 00 2",
    "began dock - 2",
    "began dock 1 --2",
    "began dock 1,2",
    "lasted dock 1",
    "lasted dock",
    "lasted dock 1 2 3",
    "unsay dock",
    "unsay dock 1 2",
    "unsay",
    "unsay 1",
    "unsay dock one",
    "told dock 1 2",
    "deeds",
    "undo",
    "redo",
    "keep",
    "clashes",
    "day dock 1",
    "work dock 5",
    "need dock dock 1 0",
    "began dock 1 2; began dock 2 2",
)


class Ended(Exception):
    """An error that is none of the package."""


def state(bench):
    """All that can be seen of a bench without changing it, what can be undone and done again by a copy."""
    seen = [bench.deeds, len(bench), bench.log().told, journal(bench), bench.yard]
    other = bench.copy()
    for look in (other.redo, other.undo):
        while True:
            try:
                look()
            except (NothingToRedo, NothingToUndo):
                break
            seen.append(journal(other))
    return seen


def plain_state(bench):
    seen = [len(bench.lines), len(bench.log().told()), bench.log().told(), bench.text(), Yard(bench.works, bench.needs)]
    other = plain_live.PlainBench(bench.works, bench.needs)
    other.lines, other.undone = bench.lines, bench.undone
    for look in (other.redo, other.undo):
        while look() is None:
            seen.append(other.text())
    return seen


def told_of(look):
    """What look tells: what it returns, or the name of the error that it raises, and its value."""
    try:
        return look()
    except errors.YardError as error:
        return (type(error).__name__, error.value)


class Deeds(unittest.TestCase):
    def test_a_new_bench(self):
        bench = Bench(YARD)
        self.assertEqual((bench.yard, bench.deeds, len(bench)), (YARD, 0, 0))
        self.assertEqual(bench.log(), Log(YARD))
        self.assertEqual(journal(bench), YARD.text + "\ndeeds")

    def test_deeds(self):
        bench = Bench(YARD)
        self.assertIsNone(bench.do("began dock 2 10"))
        self.assertIsNone(bench.do("lasted dock 2 0"))
        self.assertIsNone(bench.do("lasted build 0 999"))
        self.assertEqual((bench.deeds, len(bench)), (3, 2))
        self.assertEqual(bench.log().told, ((0, "build", None, 999), (2, "dock", 10, 0)))
        self.assertIsNone(bench.do("unsay dock 2"))
        self.assertEqual((bench.deeds, len(bench)), (4, 1))
        self.assertEqual(bench.log().told, ((0, "build", None, 999),))

    def test_lines_without_a_form(self):
        bench = Bench(YARD)
        bench.do("began dock 1 2")
        before = state(bench)
        for value in WRONG_LINES + tuple(value for value in ANY if not isinstance(value, str)) + (b"unsay dock 1",):
            with self.assertRaises(BadTask) as caught:
                bench.do(value)
            self.assertIs(caught.exception.value, value)
        self.assertEqual(state(bench), before)

    def test_what_the_log_raises(self):
        bench = Bench(YARD)
        bench.do("began dock 1 2")
        bench.do("lasted dock 1 2")
        for line, kind, value in (
            ("began zz -1 -1", "NoWork", "zz"),
            ("began dock -1 -1", "BadShip", -1),
            ("began dock 1000 -1", "BadShip", 1000),
            ("began dock 1 -1", "BadDay", -1),
            ("began dock 1 100000", "BadDay", 100000),
            ("began dock 1 2", "Taken", (1, "dock")),
            ("lasted zz -1 -1", "NoWork", "zz"),
            ("lasted dock -1 -1", "BadShip", -1),
            ("lasted dock 1 1000", "BadDays", 1000),
            ("lasted dock 1 -5", "BadDays", -5),
            ("lasted dock 1 999", "Taken", (1, "dock")),
            ("unsay zz -1", "NoWork", "zz"),
            ("unsay dock -1", "BadShip", -1),
            ("unsay dock 2", "NotTold", (2, "dock")),
        ):
            before = state(bench)
            self.assertEqual(repr(told_of(lambda: bench.do(line))), repr((kind, value)))
            self.assertEqual(state(bench), before)
        for line in ("began build 999 99999", "lasted build 999 999", "began build 0 0", "lasted build 0 0"):
            bench.do(line)

    def test_a_yard(self):
        for value in ANY + (YARD.text,):
            if not isinstance(value, Yard):
                with self.assertRaises(NoYard) as caught:
                    Bench(value)
                self.assertIs(caught.exception.value, value)

    def test_a_log_by_itself(self):
        bench = Bench(YARD)
        bench.do("began dock 2 10")
        log = bench.log()
        self.assertEqual((type(log), log.work, log.told, log.yard), (Log, 0, ((2, "dock", 10, None),), YARD))
        log.day("dock", 5)
        log.began("dock", 3, 10)
        self.assertEqual((len(bench), bench.log().told), (1, ((2, "dock", 10, None),)))
        self.assertEqual(bench.log().work, 0)
        bench.do("unsay dock 2")
        self.assertEqual(log.told, ((2, "dock", 10, None), (3, "dock", 10, None)))

    def test_equality(self):
        one, other = Bench(YARD), Bench(read_yard(YARD.text))
        self.assertTrue(one == other and not one != other)
        one.do("began dock 1 2")
        self.assertTrue(one != other and not one == other)
        other.do("began dock 1 2")
        self.assertEqual(one, other)
        # What was taken back does not stand in a journal; in what sequence deeds came does.
        one.do("began dock 2 2")
        one.undo()
        self.assertEqual(one, other)
        one.do("began dock 0 2")
        other.undo()
        other.do("began dock 0 2")
        other.do("began dock 1 2")
        self.assertEqual(one.log(), other.log())
        self.assertNotEqual(one, other)
        self.assertNotEqual(Bench(YARD), Bench(Yard(YARD.works, NEEDS[:2])))
        for value in ANY + (YARD, journal(Bench(YARD)), Log(YARD)):
            self.assertIs(Bench(YARD) == value, False)
            self.assertIs(value == Bench(YARD), False)
            self.assertIs(Bench(YARD) != value, True)

    def test_operators_raise_type_errors(self):
        for look in (lambda own: own < own, lambda own: own + own, lambda own: own - 1, lambda own: own[0], abs):
            with self.assertRaises(TypeError):
                look(Bench(YARD))


class UndoneAndDoneAgain(unittest.TestCase):
    def test_nothing_to_undo_or_redo(self):
        bench = Bench(YARD)
        for look in (bench.undo, bench.redo):
            self.assertIn(told_of(look), (("NothingToUndo", None), ("NothingToRedo", None)))
        bench.do("began dock 1 2")
        self.assertEqual(told_of(bench.redo), ("NothingToRedo", None))
        self.assertIsNone(bench.undo())
        self.assertEqual(told_of(bench.undo), ("NothingToUndo", None))
        self.assertIsNone(bench.redo())
        self.assertEqual(told_of(bench.redo), ("NothingToRedo", None))
        self.assertEqual(bench.deeds, 1)

    def test_what_was_unsaid_is_told_again(self):
        bench = Bench(YARD)
        bench.do("began dock 1 2")
        bench.do("lasted dock 1 3")
        bench.do("unsay dock 1")
        bench.do("lasted dock 1 4")
        bench.undo()
        bench.undo()
        self.assertEqual(bench.log().told, ((1, "dock", 2, 3),))
        bench.undo()
        self.assertEqual(bench.log().told, ((1, "dock", 2, None),))
        bench.redo()
        bench.redo()
        bench.redo()
        self.assertEqual(bench.log().told, ((1, "dock", None, 4),))
        self.assertEqual(journal(bench).split("\n")[-2:], ["unsay dock 1", "lasted dock 1 4"])

    def test_another_deed_ends_what_can_be_done_again_and_a_refused_one_does_not(self):
        bench = Bench(YARD)
        for ship in range(3):
            bench.do(f"began dock {ship} 2")
        bench.undo()
        bench.undo()
        for line in ("began dock 0 2", "began dock -1 2", "nothing", 7, "unsay dock 2"):
            self.assertIsNotNone(told_of(lambda: bench.do(line)))
        bench.redo()
        self.assertEqual(bench.log().told, ((0, "dock", 2, None), (1, "dock", 2, None)))
        bench.undo()
        bench.undo()
        bench.redo()
        bench.do("began dock 9 2")
        self.assertEqual(told_of(bench.redo), ("NothingToRedo", None))
        bench.undo()
        bench.undo()
        self.assertEqual(told_of(bench.undo), ("NothingToUndo", None))
        self.assertEqual(len(bench), 0)

    def test_the_same_deed_done_anew_is_a_deed(self):
        bench = Bench(YARD)
        bench.do("began dock 1 2")
        bench.do("began dock 2 2")
        bench.undo()
        bench.undo()
        bench.do("began dock 1 2")
        self.assertEqual(told_of(bench.redo), ("NothingToRedo", None))

    def test_many(self):
        bench = Bench(YARD)
        for ship in range(200):
            bench.do(f"began dock {ship} {ship}")
        for _ in range(150):
            bench.undo()
        self.assertEqual((bench.deeds, len(bench)), (50, 50))
        for _ in range(100):
            bench.redo()
        self.assertEqual([row[0] for row in bench.log().told], list(range(150)))


class Trials(unittest.TestCase):
    def setUp(self):
        self.bench = Bench(YARD)
        for ship in range(4):
            self.bench.do(f"began dock {ship} 2")
        self.bench.undo()
        self.before = state(self.bench)

    def stays(self):
        self.assertEqual(state(self.bench), self.before)

    def test_what_look_gets_and_what_is_returned(self):
        seen = []
        for value in ANY:
            self.assertIs(self.bench.tried(lambda own: seen.append(own) or value), value)
            self.assertIs(self.bench.tried(look=lambda own: value, keep=True), value)
        self.assertTrue(all(own is self.bench for own in seen))
        self.stays()

    def test_keep_is_passed_by_name(self):
        with self.assertRaises(TypeError):
            self.bench.tried(lambda own: own.do("began dock 9 9"), True)
        self.stays()

    def test_not_kept(self):
        for change in (
            lambda own: own.do("began dock 9 9"),
            lambda own: own.undo(),
            lambda own: [own.undo(), own.undo(), own.undo()],
            lambda own: own.redo(),
            lambda own: [own.undo(), own.do("began dock 9 9")],
            lambda own: [own.undo(), own.undo(), own.redo()],
        ):
            self.bench.tried(change)
            self.stays()
            self.bench.tried(change, keep=False)
            self.stays()
        self.assertEqual(self.bench.deeds, 3)

    def test_only_true_keeps(self):
        for value in ANY + (1, "True", [True], (True,), {"keep": True}, None, 0):
            if value is not True:
                self.bench.tried(lambda own: own.do("began dock 9 9"), keep=value)
                self.stays()
        self.bench.tried(lambda own: own.do("began dock 9 9"), keep=True)
        self.assertEqual(self.bench.deeds, 4)
        self.assertEqual(told_of(self.bench.redo), ("NothingToRedo", None))

    def test_kept_also_in_what_can_be_undone_and_done_again(self):
        def look(bench):
            bench.undo()
            bench.undo()
            bench.do("lasted build 7 7")
            bench.do("lasted build 8 8")
            bench.undo()

        self.bench.tried(look, keep=True)
        self.assertEqual(journal(self.bench).split("\n")[-2:], ["began dock 0 2", "lasted build 7 7"])
        self.bench.redo()
        self.assertEqual(self.bench.log().told[1:], ((7, "build", None, 7), (8, "build", None, 8)))
        for _ in range(3):
            self.bench.undo()
        self.assertEqual(told_of(self.bench.undo), ("NothingToUndo", None))

    def test_keep_at_any_place_of_the_trial(self):
        for look in (
            lambda own: [own.keep(), own.do("began dock 9 9")],
            lambda own: [own.do("began dock 9 9"), own.keep()],
            lambda own: [own.keep(), own.do("began dock 9 9"), own.keep()],
        ):
            self.bench.tried(look)
            self.assertEqual(self.bench.deeds, 4)
            self.bench.undo()
            self.bench.tried(look, keep=True)
            self.assertEqual(self.bench.deeds, 4)
            self.bench.undo()
            self.bench.tried(look, keep=False)
            self.assertEqual(self.bench.deeds, 4)
            self.bench.undo()
        self.assertIsNone(self.bench.tried(lambda own: own.keep()))

    def test_an_error_passes_on_and_nothing_stays(self):
        def ended(error, keep):
            def look(bench):
                bench.do("began dock 9 9")
                bench.undo()
                bench.undo()
                if keep:
                    bench.keep()
                raise error

            return look

        for error in (Ended(7), Taken((1, "dock")), KeyError("a"), ValueError(), TypeError(), StopIteration(), SystemExit()):
            for keep in (False, True):
                for inner in (False, True):
                    with self.assertRaises(type(error)) as caught:
                        self.bench.tried(ended(error, inner), keep=keep)
                    self.assertIs(caught.exception, error)
                    self.stays()
        for look in (None, 7, "undo", YARD):
            with self.assertRaises(TypeError):
                self.bench.tried(look, keep=True)
            self.stays()

    def test_a_refused_deed_in_a_trial(self):
        with self.assertRaises(Taken):
            self.bench.tried(lambda own: [own.do("began dock 9 9"), own.do("began dock 9 9")], keep=True)
        self.stays()
        self.bench.tried(lambda own: [own.do("began dock 9 9"), told_of(lambda: own.do("began dock 9 9"))], keep=True)
        self.assertEqual(self.bench.deeds, 4)

    def test_keep_outside_of_trials(self):
        self.assertEqual(told_of(self.bench.keep), ("NoBlock", None))
        self.bench.tried(lambda own: own.keep())
        self.assertEqual(told_of(self.bench.keep), ("NoBlock", None))
        with self.assertRaises(Ended):
            self.bench.tried(self.end)
        with self.assertRaises(NoBlock):
            self.bench.keep()
        self.stays()

    def end(self, bench):
        raise Ended()

    def test_keep_belongs_to_the_innermost_trial(self):
        def outer(bench):
            bench.do("began build 5 5")
            bench.tried(lambda own: [own.do("began build 6 6"), own.keep()])
            self.assertEqual(bench.deeds, 5)

        self.bench.tried(outer)
        self.stays()
        self.bench.tried(outer, keep=True)
        self.assertEqual(self.bench.deeds, 5)
        self.bench.undo()
        self.bench.undo()

        def kept_outside(bench):
            bench.keep()
            bench.do("began build 5 5")
            bench.tried(lambda own: own.do("began build 6 6"))
            self.assertEqual(bench.deeds, 4)

        self.bench.tried(kept_outside)
        self.assertEqual(self.bench.deeds, 4)
        self.bench.undo()

        def kept_behind(bench):
            bench.tried(lambda own: [own.do("began build 6 6"), own.keep()])
            bench.tried(lambda own: own.do("began build 7 7"))
            bench.keep()

        self.bench.tried(kept_behind)
        self.assertEqual(self.bench.log().told[-1], (6, "build", 6, None))

    def test_an_error_of_an_inner_trial_that_is_caught(self):
        def outer(bench):
            bench.do("began build 5 5")
            with self.assertRaises(Ended):
                bench.tried(lambda own: [own.do("began build 6 6"), own.keep(), self.end(own)], keep=True)
            self.assertEqual(bench.log().told[-1], (5, "build", 5, None))
            bench.keep()

        self.bench.tried(outer)
        self.assertEqual((self.bench.deeds, len(self.bench)), (4, 4))

    def test_undo_goes_on_to_what_was_done_ahead_of_the_trial(self):
        def look(bench):
            bench.do("began build 5 5")
            for _ in range(4):
                bench.undo()
            self.assertEqual(told_of(bench.undo), ("NothingToUndo", None))
            bench.redo()
            return bench.deeds

        self.assertEqual(self.bench.tried(look), 1)
        self.stays()
        self.assertEqual(self.bench.tried(lambda own: [own.redo(), own.deeds]), [None, 4])
        self.stays()

    def test_copies_made_within_trials(self):
        copies = []

        def look(bench):
            bench.do("began build 5 5")
            bench.keep()
            copies.append(bench.copy())
            self.assertEqual(told_of(copies[0].keep), ("NoBlock", None))
            copies[0].do("began build 6 6")
            bench.do("began build 7 7")
            raise Ended()

        with self.assertRaises(Ended):
            self.bench.tried(look)
        self.stays()
        other = copies[0]
        self.assertEqual(other.deeds, 5)
        self.assertEqual(told_of(other.keep), ("NoBlock", None))
        other.tried(lambda own: own.undo())
        self.assertEqual([row[0] for row in other.log().told], [0, 1, 2, 5, 6])
        for _ in range(5):
            other.undo()
        self.assertEqual(len(other), 0)
        self.stays()

    def test_a_trial_of_a_copy_within_a_trial(self):
        def look(bench):
            other = bench.copy()
            other.tried(lambda own: [own.do("began build 5 5"), own.keep()])
            self.assertEqual(other.deeds, 4)
            self.assertEqual(bench.deeds, 3)

        self.bench.tried(look)
        self.stays()

    def test_deep(self):
        def look(bench, levels=40):
            bench.do(f"began build {levels} 1")
            if levels:
                bench.tried(lambda own: look(own, levels - 1), keep=levels % 2 == 0)

        self.bench.tried(look, keep=True)
        self.assertEqual(self.bench.deeds, 5)
        self.assertEqual([row[:2] for row in self.bench.log().told[3:]], [(39, "build"), (40, "build")])


class Copies(unittest.TestCase):
    def test_independent_also_in_what_can_be_done_again(self):
        bench = Bench(YARD)
        bench.do("began dock 1 1")
        bench.do("began dock 2 2")
        bench.undo()
        other = bench.copy()
        self.assertIs(type(other), Bench)
        self.assertEqual((other, state(other)), (bench, state(bench)))
        other.redo()
        self.assertEqual((other.deeds, bench.deeds), (2, 1))
        bench.undo()
        self.assertEqual((len(other), len(bench)), (2, 0))
        bench.do("lasted dock 0 9")
        other.undo()
        other.undo()
        self.assertEqual(other.log(), Log(YARD))
        other.redo()
        self.assertEqual(journal(other).split("\n")[-1], "began dock 1 1")


def random_line(rng, yard, ships):
    """A deed's line, mostly one that may be done."""
    name, ship = rng.choice(yard.names), rng.randrange(ships)
    kind = rng.random()
    if kind < 0.05:
        return rng.choice(WRONG_LINES)
    if kind < 0.1:
        name, ship = rng.choice((("zz", ship), (name, -1), (name, 1000)))
    if kind < 0.4:
        return f"unsay {name} {ship}"
    return f"{rng.choice(('began', 'lasted'))} {name} {ship} {rng.choice((0, 3, 40, rng.randint(-1, 70)))}"


def script(rng, yard, levels=3):
    """Steps at random: lines, undo, redo, and trials of scripts of their own."""
    steps = []
    for _ in range(rng.randint(1, 8)):
        kind = rng.random()
        if kind < 0.5:
            steps.append(("do", random_line(rng, yard, 4)))
        elif kind < 0.65:
            steps.append(("undo",))
        elif kind < 0.8:
            steps.append(("redo",))
        elif levels:
            ends = rng.choice(("", "", "keep", "keep first", "Ended", "keep Ended", "BadTask"))
            steps.append(("try", script(rng, yard, levels - 1), ends, rng.choice((True, False, 1, None, "True"))))
    return steps


class AtRandom(unittest.TestCase):
    def go(self, bench, plainly, steps):
        """Do these steps to both, and hold them against each other behind each of them."""
        for step in steps:
            if step[0] == "do":
                self.assertEqual(told_of(lambda: bench.do(step[1])), plainly.do(step[1]))
            elif step[0] != "try":
                self.assertEqual(told_of(getattr(bench, step[0])), getattr(plainly, step[0])())
            else:
                self.try_both(bench, plainly, *step[1:])
            self.assertEqual(state(bench), plain_state(plainly))
            self.assertEqual(read_journal(journal(bench)), bench)

    def try_both(self, bench, plainly, steps, ends, keep):
        lines, undone = plainly.lines, plainly.undone

        def look(own):
            if "first" in ends:
                own.keep()
            self.go(own, plainly, steps)
            if ends.startswith("keep"):
                own.keep()
            if "Ended" in ends:
                raise Ended()
            if ends == "BadTask":
                own.do("nothing")
            return ends

        try:
            self.assertEqual(bench.tried(look, keep=keep), ends)
        except (Ended, BadTask):
            self.assertIn(ends, ("Ended", "keep Ended", "BadTask"))
            stays = False
        else:
            stays = keep is True or "keep" in ends
        if not stays:
            plainly.lines, plainly.undone = lines, undone

    def test_scripts(self):
        rng = random.Random("scripts")
        for _ in range(150):
            yard = random_yard(rng, most_works=3, most_needs=4)
            bench, plainly = Bench(yard), plain_live.PlainBench(yard.works, yard.needs)
            for _ in range(3):
                self.go(bench, plainly, script(rng, yard))
                if rng.random() < 0.3:
                    bench = bench.copy()
            log, other = bench.log(), plainly.log()
            self.assertEqual(log.clashes(), other.clashes())
            for name in yard.names:
                self.assertEqual([log.day(name, ship) for ship in range(6)], [other.day(name, ship) for ship in range(6)])

    def test_not_told_and_not_undone(self):
        bench = Bench(YARD)
        with self.assertRaises(NotTold):
            bench.do("unsay dock 1")
        with self.assertRaises(NothingToUndo):
            bench.undo()


if __name__ == "__main__":
    unittest.main()
