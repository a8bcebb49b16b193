"""The names of the interface: where they are defined, and how their parameters are called."""

import ast
import importlib
import inspect
import unittest
from pathlib import Path

import afloatintime

LATE = "yard delays changes "
INTERFACE = {
    "yards": {
        "Yard": "works needs",
        "days_of": "yard name",
        "lasting": "yard name days",
        "more": "yard need",
        "needs_from": "yard name",
        "needs_to": "yard name",
        "read_yard": "text",
        "upstream": "yard name",
        "with_docks": "yard enters leaves many",
        "without": "yard need",
    },
    "days": {
        "broken": LATE + "part",
        "earliest_day": LATE + "name ship",
        "earliest_days": LATE + "ship",
        "is_earliest": LATE + "part",
        "reason": LATE + "name ship",
        "shows_reason": LATE + "name ship value",
        "worth": LATE + "trail",
    },
    "rings": {
        "beat": "yard name",
        "heights": "yard name",
        "pace": "yard name",
        "pace_of_all": "yard",
        "paces": "yard",
        "ring": "yard name",
        "shows_heights": "yard name value",
        "shows_ring": "yard name value",
        "tight": "yard name",
    },
    "tables": {
        "day_of": LATE + "name ship",
        "ships_by": LATE + "name day",
        "shows_table": LATE + "value",
        "steady": LATE + "name",
        "table": LATE,
    },
    "late": {
        "greatest_moved": LATE + "name",
        "last_moved": LATE + "name",
        "moved": LATE,
        "moved_at": LATE + "name ship",
        "quiet_from": LATE,
        "unmoved": LATE,
    },
    "room": {
        "binding": "yard spot goal",
        "free_room": "yard spot",
        "lasting_room": "yard spot goal",
        "pair_room": "yard one other goal",
        "room": "yard spot goal",
        "rooms": "yard name goal",
        "shows_binding": "yard spot goal value",
        "tight_works": "yard goal",
    },
    "wishes": {
        "can_keep": "yard rhythm",
        "first_day": "yard name pace",
        "height": "yard rhythm name",
        "latest": "yard wishes name ship",
        "latest_in": "yard rhythm name ship",
        "never": "yard rhythm",
        "shows_never": "yard rhythm value",
        "shows_too_late": "yard wishes value",
        "slack": "yard wishes name ship",
        "too_late": "yard wishes",
    },
}

YARD = importlib.import_module("afloatintime.yards").Yard((("a", 2), ("b", 1)), (("a", "a", 1, 0), ("a", "b", 0, 0)))
VALUES = {
    "yard": YARD,
    "works": YARD.works,
    "needs": YARD.needs,
    "name": "b",
    "enters": "a",
    "leaves": "b",
    "many": 2,
    "days": 3,
    "delays": ((1, "a", 4),),
    "changes": ((0, "b", 1),),
    "ship": 3,
    "part": ((0, 2), (4, 6)),
    "trail": (1, "a", (("a", "b", 0, 0),)),
    "text": YARD.text,
    "value": None,
    "day": 20,
    "spot": (4, "a"),
    "one": (2, "a"),
    "other": (3, "a"),
    "goal": "b",
    "wishes": ((1, "a", 0), (5, "b", 12)),
    "rhythm": ("b", 1, (5, 2)),
    "pace": (5, 2),
}


def value_for(function, parameter):
    if parameter == "need":
        return ("b", "a", 2, 0) if function == "more" else ("a", "b", 0, 0)
    return VALUES[parameter]


class Interface(unittest.TestCase):
    def each(self):
        for module, functions in INTERFACE.items():
            for name, parameters in functions.items():
                yield module, name, parameters.split()

    def test_every_name_is_defined_in_its_file(self):
        for module, functions in INTERFACE.items():
            path = Path(afloatintime.__file__).parent / f"{module}.py"
            defined = [node.name for node in ast.parse(path.read_text()).body if hasattr(node, "name")]
            for name in functions:
                self.assertIn(name, defined, module)

    def test_parameters_are_called_as_the_document_calls_them(self):
        for module, name, parameters in self.each():
            found = getattr(importlib.import_module(f"afloatintime.{module}"), name)
            self.assertEqual(list(inspect.signature(found).parameters), parameters, name)

    def test_arguments_pass_by_position_and_by_name(self):
        for module, name, parameters in self.each():
            found = getattr(importlib.import_module(f"afloatintime.{module}"), name)
            values = {parameter: value_for(name, parameter) for parameter in parameters}
            backwards = {parameter: values[parameter] for parameter in reversed(parameters)}
            told = found(*values.values())
            self.assertEqual(told, found(**values), name)
            self.assertEqual(told, found(**backwards), name)

    def test_arguments_are_not_changed(self):
        before = repr([value for key, value in VALUES.items() if key != "yard"]), YARD.text
        for module, name, parameters in self.each():
            found = getattr(importlib.import_module(f"afloatintime.{module}"), name)
            found(*[value_for(name, parameter) for parameter in parameters])
        self.assertEqual(before, (repr([value for key, value in VALUES.items() if key != "yard"]), YARD.text))
        self.assertEqual((YARD.works, YARD.needs), (VALUES["works"], VALUES["needs"]))


if __name__ == "__main__":
    unittest.main()
