"""The names of the interface: where they are defined, and how their parameters are called."""

import ast
import importlib
import inspect
import unittest
from pathlib import Path

import afloatintime

LATE = "yard delays changes "
PRICED = "yard prices "
INTERFACE = {
    "yards": {
        "Yard": "works needs",
        "days_of": "yard name",
        "lasting": "yard name days",
        "more": "yard need",
        "needs_from": "yard name",
        "needs_to": "yard name",
        "read_yard": "text",
        "upstream": "yard name",
        "with_docks": "yard enters leaves many",
        "without": "yard need",
    },
    "days": {
        "broken": LATE + "part",
        "earliest_day": LATE + "name ship",
        "earliest_days": LATE + "ship",
        "is_earliest": LATE + "part",
        "reason": LATE + "name ship",
        "shows_reason": LATE + "name ship value",
        "worth": LATE + "trail",
    },
    "rings": {
        "beat": "yard name",
        "heights": "yard name",
        "pace": "yard name",
        "pace_of_all": "yard",
        "paces": "yard",
        "ring": "yard name",
        "shows_heights": "yard name value",
        "shows_ring": "yard name value",
        "tight": "yard name",
    },
    "tables": {
        "day_of": LATE + "name ship",
        "ships_by": LATE + "name day",
        "shows_table": LATE + "value",
        "steady": LATE + "name",
        "table": LATE,
    },
    "late": {
        "greatest_moved": LATE + "name",
        "last_moved": LATE + "name",
        "moved": LATE,
        "moved_at": LATE + "name ship",
        "quiet_from": LATE,
        "unmoved": LATE,
    },
    "room": {
        "binding": "yard spot goal",
        "free_room": "yard spot",
        "lasting_room": "yard spot goal",
        "pair_room": "yard one other goal",
        "room": "yard spot goal",
        "rooms": "yard name goal",
        "shows_binding": "yard spot goal value",
        "tight_works": "yard goal",
    },
    "wishes": {
        "can_keep": "yard rhythm",
        "first_day": "yard name pace",
        "height": "yard rhythm name",
        "latest": "yard wishes name ship",
        "latest_in": "yard rhythm name ship",
        "never": "yard rhythm",
        "shows_never": "yard rhythm value",
        "shows_too_late": "yard wishes value",
        "slack": "yard wishes name ship",
        "too_late": "yard wishes",
    },
    "docks": {
        "best_paces": "yard docks name most",
        "fewest": "yard docks name pace",
        "shows_too_few": "yard docks name pace most value",
        "too_few": "yard docks name pace most",
        "with_more": "yard docks more",
    },
    "quickening": {
        "bar": PRICED + "name pace",
        "cheapest": PRICED + "name pace",
        "cost": PRICED + "bought",
        "flow": PRICED + "name pace",
        "flow_worth": PRICED + "name pace flow",
        "quickened": PRICED + "bought",
        "shows_bar": PRICED + "name pace value",
        "shows_cheapest": PRICED + "name pace value",
        "shows_flow": PRICED + "name pace value",
    },
    "alike": {
        "alike_always": "one other",
        "apart": "one other names",
        "idle": "yard",
        "lean": "yard",
        "needless": "yard",
    },
    "keeping": {"Log": "yard"},
    "pictures": {"chart": "yard ships first many"},
    "benches": {"Bench": "yard"},
    "journals": {"journal": "bench", "read_journal": "text"},
    "desk": {"Desk": "text"},
}

# The methods that are told for each class, and its attributes.
METHODS = {
    "Log": {
        "began": "name ship day",
        "lasted": "name ship days",
        "unsay": "name ship",
        "day": "name ship",
        "done": "name ship",
        "clashes": "",
        "copy": "",
    },
    "Bench": {"log": "", "do": "line", "undo": "", "redo": "", "tried": "look keep", "keep": "", "copy": "", "__len__": ""},
    "Desk": {"say": "line"},
}
ATTRIBUTES = {"Yard": "works needs names text", "Log": "yard told work", "Bench": "yard deeds", "Desk": "bench"}

YARD = importlib.import_module("afloatintime.yards").Yard((("a", 2), ("b", 1)), (("a", "a", 1, 0), ("a", "b", 0, 0)))
VALUES = {
    "yard": YARD,
    "works": YARD.works,
    "needs": YARD.needs,
    "name": "b",
    "enters": "a",
    "leaves": "b",
    "many": 2,
    "days": 3,
    "delays": ((1, "a", 4),),
    "changes": ((0, "b", 1),),
    "ship": 3,
    "part": ((0, 2), (4, 6)),
    "trail": (1, "a", (("a", "b", 0, 0),)),
    "text": YARD.text,
    "value": None,
    "day": 20,
    "spot": (4, "a"),
    "one": (2, "a"),
    "other": (3, "a"),
    "goal": "b",
    "wishes": ((1, "a", 0), (5, "b", 12)),
    "rhythm": ("b", 1, (5, 2)),
    "pace": (5, 2),
    "docks": (("crew", (0,)),),
    "more": (3,),
    "most": 1,
    "prices": (("a", 3, 0),),
    "bought": (("a", 1),),
    "flow": ((("a", "a", 1, 0), 3),),
    "names": ("a", "b"),
    "ships": (0, 2),
    "first": 0,
    "bench": importlib.import_module("afloatintime.benches").Bench(YARD),
}
# Where a parameter of the same name wants another value.
OTHERS = {
    ("more", "need"): ("b", "a", 2, 0),
    ("without", "need"): ("a", "b", 0, 0),
    ("quickening", "pace"): 1,
    ("alike", "one"): YARD,
    ("alike", "other"): YARD,
    ("journals", "text"): YARD.text + "\ndeeds\nbegan a 1 9",
    ("desk", "text"): YARD.text + "\ndeeds\nbegan a 1 9",
}


def value_for(module, function, parameter):
    for key in ((function, parameter), (module, parameter)):
        if key in OTHERS:
            return OTHERS[key]
    return VALUES[parameter]


class Interface(unittest.TestCase):
    def each(self):
        for module, functions in INTERFACE.items():
            for name, parameters in functions.items():
                yield module, name, parameters.split()

    def test_every_name_is_defined_in_its_file(self):
        for module, functions in INTERFACE.items():
            path = Path(afloatintime.__file__).parent / f"{module}.py"
            defined = [node.name for node in ast.parse(path.read_text()).body if hasattr(node, "name")]
            for name in functions:
                self.assertIn(name, defined, module)

    def test_parameters_are_called_as_the_document_calls_them(self):
        for module, name, parameters in self.each():
            found = getattr(importlib.import_module(f"afloatintime.{module}"), name)
            self.assertEqual(list(inspect.signature(found).parameters), parameters, name)

    def test_arguments_pass_by_position_and_by_name(self):
        for module, name, parameters in self.each():
            found = getattr(importlib.import_module(f"afloatintime.{module}"), name)
            values = {parameter: value_for(module, name, parameter) for parameter in parameters}
            backwards = {parameter: values[parameter] for parameter in reversed(parameters)}
            # Desks are not equal to one another: so their benches stand for them.
            tellings = [found(*values.values()), found(**values), found(**backwards)]
            tellings = [getattr(told, "bench", told) for told in tellings]
            self.assertEqual(tellings, [tellings[0]] * 3, name)

    def test_arguments_are_not_changed(self):
        held = [value for value in list(VALUES.values()) + list(OTHERS.values()) if value is not YARD]
        before = repr(held), YARD.text
        for module, name, parameters in self.each():
            found = getattr(importlib.import_module(f"afloatintime.{module}"), name)
            found(*[value_for(module, name, parameter) for parameter in parameters])
        self.assertEqual(before, (repr(held), YARD.text))
        self.assertEqual((YARD.works, YARD.needs), (VALUES["works"], VALUES["needs"]))


class Classes(unittest.TestCase):
    def each(self):
        for module, functions in INTERFACE.items():
            for name in functions:
                if name in ATTRIBUTES:
                    yield module, name

    def test_each_method_is_defined_in_its_class(self):
        for module, name in self.each():
            path = Path(afloatintime.__file__).parent / f"{module}.py"
            body = [node for node in ast.parse(path.read_text()).body if getattr(node, "name", "") == name][0].body
            defined = [node.name for node in body if isinstance(node, ast.FunctionDef)]
            for method in METHODS.get(name, ()):
                self.assertIn(method, defined)

    def test_parameters_of_methods(self):
        for module, name in self.each():
            found = getattr(importlib.import_module(f"afloatintime.{module}"), name)
            for method, parameters in METHODS.get(name, {}).items():
                told = list(inspect.signature(getattr(found, method)).parameters)[1:]
                self.assertEqual(told, parameters.split(), method)

    def test_attributes_stand_from_the_first(self):
        for module, name in self.each():
            made = getattr(importlib.import_module(f"afloatintime.{module}"), name)
            held = made(*[value_for(module, name, parameter) for parameter in INTERFACE[module][name].split()])
            for attribute in ATTRIBUTES[name].split():
                self.assertTrue(hasattr(held, attribute), attribute)

    def test_keep_is_passed_by_name_alone(self):
        parameters = inspect.signature(importlib.import_module("afloatintime.benches").Bench.tried).parameters
        self.assertIs(parameters["keep"].kind, inspect.Parameter.KEYWORD_ONLY)
        self.assertIs(parameters["keep"].default, False)

    def test_benches_and_desks_take_arguments_by_position_and_by_name(self):
        bench = importlib.import_module("afloatintime.benches").Bench(yard=YARD)
        bench.do(line="began a 1 9")
        bench.do("lasted a 1 9")
        self.assertEqual(bench.tried(keep=True, look=lambda own: [own.undo(), own.deeds]), [None, 1])
        self.assertEqual(bench.deeds, 1)
        desk = importlib.import_module("afloatintime.desk").Desk(text=YARD.text + "\ndeeds")
        self.assertEqual([desk.say(line="began a 1 9"), desk.say("day a 1")], ["done", "9"])
        self.assertEqual(desk.bench, bench)

    def test_logs_take_arguments_by_position_and_by_name(self):
        made = importlib.import_module("afloatintime.keeping").Log
        one, other = made(YARD), made(yard=YARD)
        one.began("a", 1, 9)
        other.began(day=9, ship=1, name="a")
        one.lasted("b", 2, 7)
        other.lasted(ship=2, days=7, name="b")
        self.assertEqual(one.told, other.told)
        self.assertEqual(one.day("b", 2), other.day(ship=2, name="b"))
        self.assertEqual(one.done("b", 2), other.done(ship=2, name="b"))
        one.unsay("a", 1)
        other.unsay(ship=1, name="a")
        self.assertEqual(one, other)


if __name__ == "__main__":
    unittest.main()
