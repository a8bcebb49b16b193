"""Texts of YARDS, section 4."""

import random
import unittest

from afloatintime.errors import BadYard
from afloatintime.yards import Yard, read_yard
from tests import plain
from tests.samples import ANY, random_yards

TEXT = "work float 1\nwork hull 5\nwork keel 3\nneed hull float 0 0\nneed keel hull 0 -2\nneed keel keel 2 10"

WORDS = ("",) + tuple("0 1 -1 -0 00 +1 10 99 100 -99 -100 1.0 a hull Hull work need".split())


def fault(text):
    """The number that BadYard tells; None if it is raised not at all."""
    try:
        read_yard(text)
    except BadYard as error:
        return error.value
    return None


class Reading(unittest.TestCase):
    def held(self, text):
        self.assertEqual(fault(text), plain.line_that_fails(text), text)

    def test_a_text_is_read_back(self):
        yard = read_yard(TEXT)
        self.assertEqual(yard.text, TEXT)
        self.assertEqual(yard.works, (("float", 1), ("hull", 5), ("keel", 3)))
        self.assertEqual(yard.needs, (("hull", "float", 0, 0), ("keel", "hull", 0, -2), ("keel", "keel", 2, 10)))

    def test_texts_of_many_yards_are_read_back(self):
        for yard in random_yards(46, 200):
            again = read_yard(yard.text)
            self.assertEqual(again, yard)
            self.assertEqual((again.works, again.needs, again.names), (yard.works, yard.needs, yard.names))

    def test_no_string(self):
        for value in ANY:
            if not isinstance(value, str):
                self.assertEqual(fault(value), 0)
                self.assertIs(type(fault(value)), int)

    def test_no_signs_and_empty_lines(self):
        for text, number in (("", 1), ("\n", 1), ("work a 1\n", 2), ("\nwork a 1", 1), ("work a 1\n\nwork b 1", 2)):
            self.assertEqual(fault(text), number)

    def test_lines_in_the_wrong_place(self):
        for text, number in (
            ("need a a 1 0", 1),
            ("need a a 1 0\nwork a 1", 1),
            ("work a 1\nneed a a 1 0\nwork b 1", 3),
            ("work b 1\nwork a 1", 2),
            ("work a 1\nwork a 2", 2),
            ("work a 1\nneed a a 1 0\nneed a a 1 0", 3),
            ("work a 1\nneed a a 2 0\nneed a a 1 0", 3),
            ("work a 1\nneed a b 1 0\nwork b 1", 2),
            ("deeds", 1),
            ("work a 1\ndeeds", 2),
        ):
            self.assertEqual(fault(text), number, text)

    def test_forms_of_lines(self):
        for line in (
            "work", "work a", "work a 1 ", " work a 1", "work  a 1", "work a  1", "work a 1 1", "Work a 1", "work A 1",
            "work 1 a", "work a 01", "work a +1", "work a -1", "work a -0", "work a 100", "work a 1.0", "work a x",
            "work a1234567890 1", "work a\t1", "work a 1\r", "work a 1_0", "work a -", "work a " + "9" * 5000,
        ):  # fmt: skip
            self.assertEqual(fault(line), 1, line)
        for line in (
            "need", "need a", "need a a 1", "need a a 1 0 ", "need a a 1 0 0", "need a a 10 0", "need a a -1 0",
            "need a a 1 100", "need a a 1 -100", "need a a 1 -4", "need a a 01 0", "need a a 1 -0", "need a a 1 +0",
            "need a  a 1 0", "need b a 1 0", "need a b 1 0", "Need a a 1 0", "need a a x 0", "need a a 1 x",
            "need a a 1 --1", "need a a 1 1-", "need a a - 1", "need a a 1 " + "9" * 5000, "need a a 0 0",
        ):  # fmt: skip
            self.assertEqual(fault("work a 3\n" + line), 2, line)
        for line in ("need a a 1 -3", "need a a 9 99", "need a a 1 0"):
            self.assertIsNone(fault("work a 3\n" + line))

    def test_the_need_that_closes_a_ring(self):
        works = "work a 1\nwork b 1\nwork c 1\n"
        self.assertEqual(fault(works + "need a b 0 0\nneed b c 0 0\nneed c a 0 0\nneed c b 0 0"), 6)
        self.assertEqual(fault(works + "need a b 0 0\nneed b c 0 0\nneed c a 1 0\nneed c b 0 0"), 7)
        self.assertEqual(fault(works + "need a a 0 0\nneed b"), 4)
        self.assertIsNone(fault(works + "need a b 0 0\nneed b c 0 0\nneed c a 1 0\nneed c b 1 0"))

    def test_as_many_lines_as_are_let(self):
        works = [f"work w{at:02} {at}" for at in range(13)]
        self.assertIsNone(fault("\n".join(works[:12])))
        self.assertEqual(fault("\n".join(works)), 13)
        needs = [f"need a b {back} {wait}" for back in range(9) for wait in range(5)]
        self.assertIsNone(fault("\n".join(["work a 1", "work b 1"] + needs[:40])))
        self.assertEqual(fault("\n".join(["work a 1", "work b 1"] + needs[:41])), 43)

    def test_the_first_of_several_wrong_lines(self):
        self.assertEqual(fault("work a 1\nwork b x\nwork c x\nneed a"), 2)
        self.assertEqual(fault("work a 1\nwork b 2\nneed a a 0 0\nneed z z 1 0"), 3)

    def test_lines_left_out_twice_exchanged(self):
        for text in [TEXT] + [yard.text for yard in random_yards(47, 40)]:
            lines = text.split("\n")
            for at in range(len(lines)):
                self.held("\n".join(lines[:at] + lines[at + 1 :]))
                self.held("\n".join(lines[: at + 1] + lines[at:]))
                self.held("\n".join(lines[: at + 1] + [""] + lines[at + 1 :]))
                for other in range(at):
                    changed = list(lines)
                    changed[at], changed[other] = changed[other], changed[at]
                    self.held("\n".join(changed))

    def test_words_otherwise(self):
        for text in [TEXT] + [yard.text for yard in random_yards(48, 15)]:
            lines = [line.split(" ") for line in text.split("\n")]
            for at, words in enumerate(lines):
                for place in range(len(words)):
                    for word in WORDS + tuple(words):
                        changed = words[:place] + [word] + words[place + 1 :]
                        self.held("\n".join(" ".join(row) for row in lines[:at] + [changed] + lines[at + 1 :]))

    def test_signs_otherwise(self):
        rng = random.Random(49)
        for text in [TEXT] + [yard.text for yard in random_yards(50, 30)]:
            for _ in range(60):
                at = rng.randrange(len(text) + 1)
                sign = rng.choice(" \nab0179-+x")
                self.held(text[:at] + sign + text[at:])
                self.held(text[:at] + text[at + 1 :])
                self.held(text[:at] + sign + text[at + 1 :])

    def test_equal_calls(self):
        self.assertEqual(read_yard(TEXT), read_yard(text=TEXT))
        self.assertIsInstance(read_yard(TEXT), Yard)


if __name__ == "__main__":
    unittest.main()
