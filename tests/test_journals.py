"""Section 16: journals, and the guarantee (h) of section 3."""

import random
import unittest

from afloatintime import yards
from afloatintime.benches import Bench
from afloatintime.errors import BadJournal, BadYard, YardError
from afloatintime.journals import journal, read_journal
from afloatintime.yards import Yard
from tests import plain_live
from tests.samples import ANY, random_yard, random_yards
from tests.test_benches import WRONG_LINES, YARD, random_line

TEXT = YARD.text
LINES = TEXT.split("\n")


def random_bench(rng, yard=None, many=8):
    yard = yard or random_yard(rng, most_works=4, most_needs=5)
    bench = Bench(yard)
    for _ in range(many):
        try:
            rng.choice((bench.undo, bench.redo, *[lambda: bench.do(random_line(rng, yard, 5))] * 6))()
        except YardError:
            pass
    return bench


class Journals(unittest.TestCase):
    def fails(self, text, number):
        with self.assertRaises(BadJournal) as caught:
            read_journal(text)
        self.assertEqual(repr(caught.exception.value), repr(number), text)
        self.assertIs(type(caught.exception), BadJournal)

    def test_what_a_journal_holds(self):
        bench = Bench(YARD)
        self.assertEqual(journal(bench), TEXT + "\ndeeds")
        bench.do("began dock 2 10")
        bench.do("lasted dock 2 0")
        bench.do("unsay dock 2")
        bench.do("began build 999 99999")
        bench.undo()
        self.assertEqual(journal(bench), TEXT + "\ndeeds\nbegan dock 2 10\nlasted dock 2 0\nunsay dock 2")
        bench.redo()
        self.assertEqual(journal(bench).split("\n")[-1], "began build 999 99999")

    def test_read_back(self):
        bench = read_journal(TEXT + "\ndeeds\nbegan dock 2 10\nunsay dock 2\nlasted dock 0 7")
        self.assertIs(type(bench), Bench)
        self.assertEqual((bench.yard, bench.deeds, len(bench)), (YARD, 3, 1))
        self.assertEqual(bench.log().told, ((0, "dock", None, 7),))
        bench.undo()
        bench.undo()
        self.assertEqual(bench.log().told, ((2, "dock", 10, None),))
        self.assertEqual(bench.deeds, 1)
        self.assertEqual(read_journal("work a 0\ndeeds").yard, Yard((("a", 0),), ()))

    def test_what_was_taken_back_is_not_read_back(self):
        bench = Bench(YARD)
        bench.do("began dock 2 10")
        bench.undo()
        again = read_journal(journal(bench))
        self.assertEqual(again, bench)
        with self.assertRaises(YardError):
            again.redo()
        bench.redo()

    def test_at_random(self):
        rng = random.Random("journals")
        for _ in range(60):
            bench = random_bench(rng)
            again = read_journal(journal(bench))
            self.assertEqual((again, journal(again)), (bench, journal(bench)))
            self.assertEqual((again.log(), again.deeds, len(again)), (bench.log(), bench.deeds, len(bench)))

    def test_what_is_no_string(self):
        for value in ANY + (TEXT.encode(), LINES, (TEXT,), Bench(YARD)):
            if not isinstance(value, str):
                self.fails(value, 0)

    def test_lines_are_missing(self):
        for many in range(1, len(LINES) + 1):
            self.fails("\n".join(LINES[:many]), many + 1)
        self.fails("", 1)
        self.fails("\n", 1)

    def test_deeds_first_or_never_or_amid_the_lines_of_the_yard(self):
        self.fails("deeds", 1)
        self.fails("deeds\n" + TEXT, 1)
        self.fails("deeds\n" + TEXT + "\ndeeds", 1)
        for at in range(1, len(LINES)):
            self.fails("\n".join(LINES[:at] + ["deeds"] + LINES[at:] + ["deeds"]), at + 2)
        for line in ("Deeds", "deeds ", " deeds", "deed", "deeds 3", "deeds\t"):
            self.fails(TEXT + "\n" + line, len(LINES) + 1)
            self.fails(TEXT + "\n" + line + "\nbegan dock 2 10", len(LINES) + 1)
        self.fails(TEXT + "\ndeeds\ndeeds", len(LINES) + 2)
        self.fails(TEXT + "\ndeeds\nbegan dock 2 10\ndeeds\nbegan dock 3 10", len(LINES) + 3)

    def test_lines_behind_deeds_that_cannot_stand(self):
        ahead = TEXT + "\ndeeds\nbegan dock 2 10\n"
        number = len(LINES) + 3
        for line in WRONG_LINES:
            first = line.split("\n")[0]
            if first == line:
                self.fails(ahead + line, number)
                self.fails(ahead + line + "\nbegan dock 3 10", number)
        for line in (
            "began dock 2 10",
            "began dock 2 11",
            "began zz 2 10",
            "began dock 1000 10",
            "began dock -1 10",
            "began dock 3 100000",
            "lasted dock 2 1000",
            "unsay dock 3",
            "unsay build 2",
            TEXT.split("\n")[0],
        ):
            self.fails(ahead + line, number)
            self.fails(ahead + "lasted dock 2 10\n" + line, number + 1)
        self.fails(ahead + "lasted dock 2 10\nunsay dock 2\nunsay dock 2", number + 2)
        self.fails(ahead, number)
        self.fails(ahead + "\n", number)

    def test_what_read_yard_tells_of_the_lines_ahead_of_deeds(self):
        for yard in random_yards("ahead of deeds", 15, most_works=3, most_needs=4):
            lines = yard.text.split("\n")
            for at in range(len(lines)):
                for other in ("", "work", "need", "work a", "x", lines[at] + " ", lines[at].replace(" ", "  ", 1), lines[0]):
                    text = "\n".join(lines[:at] + [other] + lines[at + 1 :])
                    with self.assertRaises((BadYard, BadJournal)) as caught:
                        yards.read_yard(text)
                        # A line as it was.
                        raise BadJournal(None)
                    if caught.exception.value is not None:
                        self.fails(text + "\ndeeds", caught.exception.value)
                        self.fails(text, caught.exception.value)
                        self.fails(text + "\ndeeds\nnothing", caught.exception.value)

    def test_a_line_otherwise_out_more_or_elsewhere(self):
        rng = random.Random("spoilt")
        spoilt = 0
        for _ in range(40):
            lines = journal(random_bench(rng)).split("\n")
            for _ in range(30):
                at, other = rng.randrange(len(lines)), rng.randrange(len(lines))
                line = lines[at]
                words = line.split(" ")
                rng.shuffle(words)
                near = (
                    lines[:at] + lines[at + 1 :],
                    lines[:at] + [line] + lines[at:],
                    lines[:at] + [lines[other]] + lines[at + 1 :],
                    lines[:other] + [line] + lines[other:],
                    lines[:at],
                    lines[:at] + ["deeds"] + lines[at:],
                    lines[:at] + [" ".join(words)] + lines[at + 1 :],
                    lines[:at] + [line.replace(" ", "  ")] + lines[at + 1 :],
                    lines[:at] + [line + rng.choice((" ", "0", "\n", "x", "-"))] + lines[at + 1 :],
                    lines[:at] + [line.replace("1", "01")] + lines[at + 1 :],
                    lines[:at] + [line[:-1]] + lines[at + 1 :],
                    lines[:at] + [line.upper()] + lines[at + 1 :],
                )
                text = "\n".join(rng.choice(near))
                number = plain_live.line_that_fails(text)
                if number is None:
                    self.assertEqual(journal(read_journal(text)), text)
                else:
                    self.fails(text, number)
                    spoilt += 1
        self.assertGreater(spoilt, 700)

    def test_equal_calls(self):
        text = TEXT + "\ndeeds\nbegan dock 2 10"
        one, other = read_journal(text), read_journal(text)
        self.assertEqual(one, other)
        self.assertEqual(journal(one), journal(other))
        one.undo()
        self.assertEqual(other.deeds, 1)
        self.assertEqual(read_journal(text), other)


if __name__ == "__main__":
    unittest.main()
