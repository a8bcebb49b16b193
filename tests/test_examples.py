"""The examples of the document, as they stand there, in one file of tests/examples for each section."""

import doctest
import unittest
from pathlib import Path

FOLDER = Path(__file__).parent / "examples"


class Examples(unittest.TestCase):
    def held(self, name):
        text = (FOLDER / f"{name}.txt").read_text()
        examples = doctest.DocTestParser().get_doctest(text, {}, name, None, 0)
        told = []
        results = doctest.DocTestRunner(verbose=False).run(examples, out=told.append)
        self.assertEqual(results.failed, 0, "".join(told))
        return results.attempted

    def test_yards(self):
        self.assertEqual(self.held("yards"), 8)

    def test_days(self):
        self.assertEqual(self.held("days"), 10)

    def test_rings(self):
        self.assertEqual(self.held("rings"), 8)

    def test_tables(self):
        self.assertEqual(self.held("tables"), 10)

    def test_late(self):
        self.assertEqual(self.held("late"), 9)

    def test_room(self):
        self.assertEqual(self.held("room"), 8)

    def test_wishes(self):
        self.assertEqual(self.held("wishes"), 11)

    def test_docks(self):
        self.assertEqual(self.held("docks"), 10)

    def test_quickening(self):
        self.assertEqual(self.held("quickening"), 13)

    def test_alike(self):
        self.assertEqual(self.held("alike"), 9)

    def test_keeping(self):
        self.assertEqual(self.held("keeping"), 8)

    def test_pictures(self):
        self.assertEqual(self.held("pictures"), 4)

    def test_desk(self):
        self.assertEqual(self.held("desk"), 6)


if __name__ == "__main__":
    unittest.main()
