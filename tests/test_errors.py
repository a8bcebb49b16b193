"""Section 17, and what section 2 says of errors."""

import ast
import unittest
from pathlib import Path

from afloatintime import errors
from tests.samples import ANY

LISTED = (
    "BadWorks, BadNeeds, BadRing, BadYard, NoYard, NoWork, BadShip, BadDay, BadDelays, BadChanges, BadNumber, "
    "BadNames, NoLog, Taken, Full, NothingToUndo, NothingToRedo, NoBlock, BadJournal, BadTask, TooLong, BadPace, "
    "BadWishes, BadDocks, BadPrices, BadNeed, BadDays, BadShips, NoNeed, BadBought, BadFlow, BadPart, BadSpot, Same, "
    "NotTold, BadRhythm, TooFast, BadMore, BadTrail"
).split(", ")


class Errors(unittest.TestCase):
    def test_yard_error_derives_from_value_error(self):
        self.assertEqual(errors.YardError.__bases__, (ValueError,))

    def test_all_others_derive_directly_from_it(self):
        for name in LISTED:
            self.assertEqual(getattr(errors, name).__bases__, (errors.YardError,), name)

    def test_all_are_defined_in_this_file_and_none_besides(self):
        tree = ast.parse(Path(errors.__file__).read_text())
        defined = [node.name for node in tree.body if isinstance(node, ast.ClassDef)]
        self.assertEqual(sorted(defined), sorted(LISTED + ["YardError"]))

    def test_each_keeps_any_value(self):
        for name in LISTED + ["YardError"]:
            for value in ANY:
                self.assertIs(getattr(errors, name)(value).value, value, name)

    def test_each_takes_just_one_argument(self):
        for name in LISTED + ["YardError"]:
            for arguments in ((), (1, 2)):
                with self.assertRaises(TypeError):
                    getattr(errors, name)(*arguments)

    def test_each_is_caught_as_a_value_error(self):
        for name in LISTED:
            try:
                raise getattr(errors, name)((1, 2))
            except ValueError as error:
                self.assertEqual(error.value, (1, 2))


if __name__ == "__main__":
    unittest.main()
