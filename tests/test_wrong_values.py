"""Values of every kind for every parameter: the error that is named for it, with this very value."""

import unittest
from itertools import combinations

from afloatintime import alike, days, docks, errors, late, quickening, rings, room, tables, wishes, yards
from afloatintime.benches import Bench
from afloatintime.desk import Desk
from afloatintime.journals import read_journal
from afloatintime.keeping import Log
from afloatintime.pictures import chart
from afloatintime.yards import Yard
from tests.samples import ANY

WORKS = (("hull", 5), ("keel", 3), ("paint", 2))
NEEDS = (("hull", "paint", 0, -2), ("keel", "hull", 0, 0), ("paint", "keel", 1, 0))
YARD = Yard(WORKS, NEEDS)
OTHER = Yard((("zz", 1),), ())


def rows(*more):
    return tuple((0, "hull", 5) if at == 0 else (at, "keel", 5) for at in range(11)) + more


WRONG_NEEDS = (
    ("hull", "zz", 1, 0),
    ("zz", "hull", 1, 0),
    ("Hull", "hull", 1, 0),
    ("hull", "hull", -1, 0),
    ("hull", "hull", 10, 0),
    ("hull", "hull", True, 0),
    ("hull", "hull", 1, False),
    ("hull", "hull", 1, -6),
    ("hull", "hull", 1, 100),
    ("hull", "hull", 1, -100),
    ("hull", "hull", "1", 0),
    ("hull", "hull", 1),
    ("hull", "hull", 1, 0, 0),
    ["hull", "hull", 1, 0],
    (["hull"], "hull", 1, 0),
    (("hull",), "hull", 1, 0),
    (YARD, YARD, 1, 0),
    "hull hull 1 0",
)

WRONG_LATE = (
    ((0, "hull", -1),),
    ((0, "hull", True),),
    ((0, "hull", "5"),),
    ((0, "hull", None),),
    ((0, "zz", 5),),
    ((0, "Hull", 5),),
    ((0, ["hull"], 5),),
    ((-1, "hull", 5),),
    ((100, "hull", 5),),
    ((True, "hull", 5),),
    ((False, "hull", 5),),
    (("0", "hull", 5),),
    ((0, "hull"),),
    ((0, "hull", 5, 5),),
    (0, "hull", 5),
    ([0, "hull", 5],),
    [(0, "hull", 5)],
    ((0, "hull", 5), (0, "hull", 5)),
    ((0, "hull", 5), (0, "hull", 6)),
    ((0, "keel", 5), (0, "hull", 5)),
    ((1, "hull", 5), (0, "keel", 5)),
    ((0, "hull", 5), None),
    {(0, "hull", 5): True},
)

TOO_MANY = (rows((11, "keel", 5), (12, "keel", 5)),)

WRONG_PACES = (
    (16, 2),
    (0, 2),
    (-8, 1),
    (-1, 2),
    (8, 0),
    (8, -1),
    (True, 1),
    (8, True),
    ("8", 1),
    (8, "1"),
    (8, None),
    (8,),
    (8, 1, 1),
    [8, 1],
    ((8, 1),),
    (YARD, 1),
    8,
    "8",
)


def any_but(*right):
    """All values of every kind but those that are right, True not being 1."""
    return tuple(value for value in ANY if not any(value is own for own in right))


FAR = 10**18
INTEGERS = tuple(value for value in ANY if type(value) is int and value >= 0)

WRONG = {
    "yard": ("NoYard", tuple(value for value in ANY if not isinstance(value, Yard)) + (YARD.text, (WORKS, NEEDS))),
    "name": ("NoWork", ANY + ("Hull", "hul", "hull ", ("hull",), ["hull"], b"hull", WORKS[0])),
    "works": (
        "BadWorks",
        ANY
        + (
            list(WORKS),
            dict(WORKS),
            WORKS[::-1],
            WORKS + WORKS[2:],
            (list(WORKS[0]),) + WORKS[1:],
            (("hull", 5, 0),),
            (("hull",),),
            (("hull", -1),),
            (("hull", 100),),
            (("hull", True),),
            (("hull", "5"),),
            (("hull", None),),
            (("", 5),),
            (("hull56789", 5),),
            (("5hull", 5),),
            (("Hull", 5),),
            (("hu_ll", 5),),
            (("hu ll", 5),),
            (("hull\n", 5),),
            (("hull", 5), ("hull", 6)),
            ((5, "hull"),),
            ((["hull"], 5),),
            tuple((f"w{at:02}", 1) for at in range(13)),
        ),
    ),
    "needs": (
        "BadNeeds",
        any_but(())
        + tuple((need,) for need in WRONG_NEEDS)
        + (
            list(NEEDS),
            NEEDS[::-1],
            NEEDS + NEEDS[2:],
            tuple(sorted(("hull", "keel", back, wait) for back in range(1, 10) for wait in range(5)))[:41],
        ),
    ),
    "new need": ("BadNeed", ANY + WRONG_NEEDS + NEEDS),
    "old need": ("NoNeed", ANY + WRONG_NEEDS + (("hull", "hull", 1, 0), ("paint", "keel", True, 0), list(NEEDS[0]))),
    "days": ("BadDays", tuple(value for value in any_but(*INTEGERS)) + (0, 1, 100, "5", (5,))),
    "many": ("BadNumber", tuple(value for value in ANY if type(value) is not int) + (0, -1, 10, "5", (5,))),
    "delays": ("BadDelays", any_but(()) + WRONG_LATE + TOO_MANY),
    "changes": (
        "BadChanges",
        any_but(()) + WRONG_LATE + TOO_MANY + (((0, "hull", 0),), ((0, "hull", 100),), ((0, "hull", 10**8),)),
    ),
    "ship": ("BadShip", tuple(value for value in any_but(*INTEGERS)) + (2001, 10**8, "5", (5,))),
    "far ship": ("BadShip", any_but(*INTEGERS) + (FAR + 1, "5", (5,), 10**30)),
    "any ship": ("BadShip", any_but(*INTEGERS) + (-(10**30), "5", (5,))),
    "day": ("BadDay", any_but(*INTEGERS) + (FAR + 1, "5", (5,), 10**30)),
    "spot": (
        "BadSpot",
        ANY
        + (
            (-1, "hull"),
            (FAR + 1, "hull"),
            (True, "hull"),
            (False, "hull"),
            ("0", "hull"),
            (None, "hull"),
            (0, "zz"),
            (0, "Hull"),
            (0, ["hull"]),
            (0, ("hull",)),
            (0, YARD),
            (0, 0),
            ("hull", 0),
            (0, "hull", 0),
            (0,),
            [0, "hull"],
            {0: "hull"},
            ((0, "hull"),),
        ),
    ),
    "wishes": ("BadWishes", ANY + WRONG_LATE + (tuple((at, "keel", 5) for at in range(25)), (1, "keel", 5))),
    "rhythm": (
        "BadRhythm",
        ANY
        + tuple(("hull", 9, pace) for pace in WRONG_PACES + ANY)
        + tuple(("hull", day, (8, 1)) for day in (-1, True, False, "9", None, (9,)))
        + (
            ("zz", 9, (8, 1)),
            ("Hull", 9, (8, 1)),
            (["hull"], 9, (8, 1)),
            (0, 9, (8, 1)),
            (None, 9, (8, 1)),
            ("hull", 9),
            ("hull", 9, (8, 1), 0),
            ["hull", 9, (8, 1)],
            (9, "hull", (8, 1)),
        ),
    ),
    "pace": ("BadPace", ANY + WRONG_PACES),
    "trail": (
        "BadTrail",
        ANY
        + tuple((0, need[0] if isinstance(need, (tuple, list)) else need, (need,)) for need in WRONG_NEEDS)
        + (
            (-1, "hull", ()),
            (True, "hull", ()),
            (False, "hull", ()),
            ("0", "hull", ()),
            (0, "zz", ()),
            (0, ["hull"], ()),
            (0, "hull", []),
            (0, "hull", list(NEEDS[:1])),
            (0, "hull", None),
            (0, "hull", NEEDS[0]),
            (0, "hull"),
            (0, "hull", (), ()),
            [0, "hull", ()],
            (0, "keel", NEEDS[:1]),
            (0, "hull", NEEDS[:1] + NEEDS[1:2]),
            (0, "hull", (("hull", "hull", 1, 0),)),
            (0, "paint", (("paint", "keel", True, 0),)),
        ),
    ),
    "part": (
        "BadPart",
        ANY
        + (
            ((0, 0),),
            ((0, 0, 0, 0),),
            ((0, 0, 0), (0, 0)),
            ((0, 0, -1),),
            ((0, 0, True),),
            ((0, 0, "0"),),
            ((0, 0, None),),
            ([0, 0, 0],),
            [(0, 0, 0)],
            (0, 0, 0),
            ((0, 0, 0),) * 201,
        ),
    ),
}

WRONG_DOCKS = (
    (("Crew", (0,)),),
    (("", (0,)),),
    (("crew56789", (0,)),),
    (("5crew", (0,)),),
    ((["crew"], (0,)),),
    ((0, (0,)),),
    ((None, (0,)),),
    (("crew", ()),),
    (("crew", 0),),
    (("crew", [0]),),
    (("crew", (3,)),),
    (("crew", (-1,)),),
    (("crew", (True,)),),
    (("crew", ("0",)),),
    (("crew", (None,)),),
    (("crew", ((0,),)),),
    (("crew", (0, 0)),),
    (("crew", (1, 0)),),
    (("crew", (0,), 0),),
    (("crew",),),
    (["crew", (0,)],),
    ("crew", (0,)),
    [("crew", (0,))],
    {"crew": (0,)},
    (("crew", (0,)), ("crew", (1,))),
    (("crew", (0,)), ("slip", (0,))),
    (("crew", (0, 1)), ("slip", (1, 2))),
    (("slip", (0,)), ("crew", (1,))),
    (("crew", (0,)), None),
    tuple((f"d{at}", (at,)) for at in range(5)),
)

WRONG.update(
    {
        "docks": ("BadDocks", ANY + WRONG_DOCKS),
        "more": (
            "BadMore",
            ANY + ((-1, 0), (9, 0), (0, 10), (True, 0), (0, False), ("0", 0), (None, 0), (0,), (0, 0, 0), [0, 0], ((0, 0),)),
        ),
        "most": ("BadNumber", any_but(*[value for value in INTEGERS if value <= 8]) + (9, 10**8, "5", (5,))),
        "prices": (
            "BadPrices",
            any_but(())
            + (
                (("hull", 0, 2),),
                (("hull", 1000, 2),),
                (("hull", -5, 2),),
                (("hull", True, 2),),
                (("hull", "5", 2),),
                (("hull", None, 2),),
                (("hull", 5, 1),),
                (("hull", 5, 6),),
                (("hull", 5, -1),),
                (("keel", 5, True),),
                (("keel", 5, "2"),),
                (("zz", 5, 0),),
                (("Hull", 5, 2),),
                ((["hull"], 5, 2),),
                (("hull", 5),),
                (("hull", 5, 2, 0),),
                (["hull", 5, 2],),
                ("hull", 5, 2),
                [("hull", 5, 2)],
                {"hull": (5, 2)},
                (("hull", 5, 2), ("hull", 5, 2)),
                (("hull", 5, 2), ("hull", 6, 3)),
                (("keel", 5, 2), ("hull", 5, 2)),
                (("hull", 5, 2), None),
            ),
        ),
        "bought": (
            "BadBought",
            any_but(())
            + (
                (("hull", 0),),
                (("hull", 4),),
                (("hull", -1),),
                (("hull", True),),
                (("hull", "1"),),
                (("hull", None),),
                (("keel", 4),),
                (("paint", 1),),
                (("zz", 1),),
                ((["hull"], 1),),
                (("hull",),),
                (("hull", 1, 1),),
                (["hull", 1],),
                ("hull", 1),
                [("hull", 1)],
                {"hull": 1},
                (("hull", 1), ("hull", 1)),
                (("hull", 1), ("hull", 2)),
                (("keel", 1), ("hull", 1)),
                (("hull", 1), None),
            ),
        ),
        "whole pace": ("BadPace", any_but(*INTEGERS) + (100000, 10**8, "5", (5,), (5, 1), 10**30)),
        "flow": (
            "BadFlow",
            any_but(())
            + tuple(((need, 1),) for need in WRONG_NEEDS)
            + (
                tuple((need, 0) for need in NEEDS),
                tuple((need, -1) for need in NEEDS),
                tuple((need, True) for need in NEEDS),
                tuple((need, "1") for need in NEEDS),
                tuple((need, 1) for need in NEEDS[::-1]),
                tuple((need, 1) for need in NEEDS) + ((NEEDS[2], 1),),
                tuple((need, 1) for need in NEEDS[:2]),
                tuple((need, 1 + at) for at, need in enumerate(NEEDS)),
                tuple([need, 1] for need in NEEDS),
                [(need, 1) for need in NEEDS],
                {need: 1 for need in NEEDS},
                tuple((need, 1, 1) for need in NEEDS),
                NEEDS,
            ),
        ),
        "names": (
            "BadNames",
            ANY
            + (
                ("zz",),
                ("hull", "zz"),
                ("Hull",),
                ("keel", "hull"),
                ("hull", "hull"),
                ("hull", None),
                ("hull", 0),
                (["hull"],),
                (("hull",),),
                ["hull"],
                {"hull": 1},
                "hull",
                b"hull",
            ),
        ),
        "ships": (
            "BadShips",
            tuple(value for value in ANY if value != (0,))
            + ((-1,), (1000,), (True,), (0, True), (0, None), ("0",), ((0,),), [0, 1], (1, 0), (1, 1), (0, 1, 2, 3, 4, 5, 6)),
        ),
        "first day": ("BadDay", any_but(*INTEGERS) + (100000, 10**8, "5", (5,))),
        "signs": ("BadNumber", any_but(*[value for value in INTEGERS if value > 0]) + (101, 10**8, "5", (5,))),
        "line": (
            "BadTask",
            ANY + ("began hull 1", "began hull 1 2\n", "began Hull 1 2", "began hull 01 2", "undo ", b"undo", ("undo",)),
        ),
        "log ship": ("BadShip", any_but(*INTEGERS) + (1000, 10**8, "5", (5,))),
        "log day": ("BadDay", any_but(*INTEGERS) + (100000, 10**8, "5", (5,))),
        "log days": ("BadDays", any_but(*INTEGERS) + (1000, 10**8, "5", (5,))),
    }
)

# What a second parameter of a kind wants is the same, but another value is right.
WRONG["other spot"] = WRONG["spot"]
WRONG["fast pace"] = WRONG["pace"]
WRONG["barred pace"] = WRONG["whole pace"]
WRONG["other yard"] = WRONG["yard"]

RIGHT = {
    "yard": YARD,
    "name": "hull",
    "works": WORKS,
    "needs": NEEDS,
    "new need": ("hull", "hull", 1, -5),
    "old need": NEEDS[2],
    "days": 2,
    "many": 9,
    "delays": ((3, "keel", 40),),
    "changes": ((0, "hull", 99),),
    "ship": 2,
    "trail": (0, "keel", NEEDS[1:2]),
    "part": ((3, 0, 6),),
    "value": None,
    "far ship": FAR,
    "any ship": 2,
    "day": FAR,
    "spot": (2, "keel"),
    "other spot": (3, "keel"),
    "wishes": ((0, "hull", 0), (99, "paint", 10**9)),
    "rhythm": ("hull", 0, (8, 1)),
    "pace": (8, 1),
    "docks": (("crew", (2,)), ("slip", (0, 1))),
    "more": (8, 9),
    "fast pace": (1, 9),
    "most": 1,
    "prices": (("hull", 3, 2), ("keel", 2, 0)),
    "bought": (("hull", 3), ("keel", 1)),
    "whole pace": 6,
    "barred pace": 1,
    "flow": tuple((need, 10**40) for need in NEEDS),
    "other yard": YARD,
    "names": ("hull", "paint"),
    "ships": (0, 999),
    "first day": 99999,
    "signs": 100,
    "line": "began hull 999 99999",
    "log ship": 999,
    "log day": 99999,
    "log days": 999,
}

LATE = ("yard", "delays", "changes")


def on_log(method):
    """The method of a Log, of which it is asked that what raises changes nothing."""
    told = Log(YARD)
    told.began("hull", 999, 9)
    told.lasted("hull", 999, 9)
    told.clashes()

    def look(*arguments):
        log = told.copy()
        if method in ("began", "lasted"):
            log.unsay("hull", 999)
        before = log.told, log.work
        try:
            return getattr(log, method)(*arguments)
        except errors.YardError:
            assert before == (log.told, log.work)
            raise

    return look


FUNCTIONS = (
    (Yard, ("works", "needs")),
    (yards.days_of, ("yard", "name")),
    (yards.needs_to, ("yard", "name")),
    (yards.needs_from, ("yard", "name")),
    (yards.upstream, ("yard", "name")),
    (yards.more, ("yard", "new need")),
    (yards.without, ("yard", "old need")),
    (yards.lasting, ("yard", "name", "days")),
    (yards.with_docks, ("yard", "name", "name", "many")),
    (days.earliest_days, LATE + ("ship",)),
    (days.earliest_day, LATE + ("name", "ship")),
    (days.reason, LATE + ("name", "ship")),
    (days.shows_reason, LATE + ("name", "ship", "value")),
    (days.worth, LATE + ("trail",)),
    (days.broken, LATE + ("part",)),
    (days.is_earliest, LATE + ("part",)),
    (rings.pace, ("yard", "name")),
    (rings.paces, ("yard",)),
    (rings.pace_of_all, ("yard",)),
    (rings.ring, ("yard", "name")),
    (rings.shows_ring, ("yard", "name", "value")),
    (rings.heights, ("yard", "name")),
    (rings.shows_heights, ("yard", "name", "value")),
    (rings.tight, ("yard", "name")),
    (rings.beat, ("yard", "name")),
    (tables.table, LATE),
    (tables.shows_table, LATE + ("value",)),
    (tables.day_of, LATE + ("name", "far ship")),
    (tables.ships_by, LATE + ("name", "day")),
    (tables.steady, LATE + ("name",)),
    (late.moved, LATE),
    (late.moved_at, LATE + ("name", "far ship")),
    (late.last_moved, LATE + ("name",)),
    (late.greatest_moved, LATE + ("name",)),
    (late.unmoved, LATE),
    (late.quiet_from, LATE),
    (room.room, ("yard", "spot", "name")),
    (room.lasting_room, ("yard", "spot", "name")),
    (room.free_room, ("yard", "spot")),
    (room.rooms, ("yard", "name", "name")),
    (room.tight_works, ("yard", "name")),
    (room.binding, ("yard", "spot", "name")),
    (room.shows_binding, ("yard", "spot", "name", "value")),
    (room.pair_room, ("yard", "spot", "other spot", "name")),
    (wishes.latest, ("yard", "wishes", "name", "any ship")),
    (wishes.slack, ("yard", "wishes", "name", "any ship")),
    (wishes.too_late, ("yard", "wishes")),
    (wishes.shows_too_late, ("yard", "wishes", "value")),
    (wishes.can_keep, ("yard", "rhythm")),
    (wishes.first_day, ("yard", "name", "pace")),
    (wishes.height, ("yard", "rhythm", "name")),
    (wishes.latest_in, ("yard", "rhythm", "name", "any ship")),
    (wishes.never, ("yard", "rhythm")),
    (wishes.shows_never, ("yard", "rhythm", "value")),
    (docks.with_more, ("yard", "docks", "more")),
    (docks.best_paces, ("yard", "docks", "name", "most")),
    (docks.fewest, ("yard", "docks", "name", "pace")),
    (docks.too_few, ("yard", "docks", "name", "pace", "most")),
    (docks.shows_too_few, ("yard", "docks", "name", "fast pace", "most", "value")),
    (quickening.quickened, ("yard", "prices", "bought")),
    (quickening.cost, ("yard", "prices", "bought")),
    (quickening.cheapest, ("yard", "prices", "name", "whole pace")),
    (quickening.shows_cheapest, ("yard", "prices", "name", "whole pace", "value")),
    (quickening.flow_worth, ("yard", "prices", "name", "whole pace", "flow")),
    (quickening.flow, ("yard", "prices", "name", "whole pace")),
    (quickening.shows_flow, ("yard", "prices", "name", "whole pace", "value")),
    (quickening.bar, ("yard", "prices", "name", "whole pace")),
    (quickening.shows_bar, ("yard", "prices", "name", "barred pace", "value")),
    (alike.apart, ("yard", "other yard", "names")),
    (alike.idle, ("yard",)),
    (alike.needless, ("yard",)),
    (alike.lean, ("yard",)),
    (alike.alike_always, ("yard", "other yard")),
    (Log, ("yard",)),
    (on_log("began"), ("name", "log ship", "log day")),
    (on_log("lasted"), ("name", "log ship", "log days")),
    (on_log("unsay"), ("name", "log ship")),
    (on_log("day"), ("name", "log ship")),
    (on_log("done"), ("name", "log ship")),
    (chart, ("yard", "ships", "first day", "signs")),
    (Bench, ("yard",)),
    (lambda line: Bench(YARD).do(line), ("line",)),
    (lambda line: Desk(YARD.text + "\ndeeds").say(line), ("line",)),
)


class WrongValues(unittest.TestCase):
    def refused(self, function, arguments, kind, value):
        with self.assertRaises(errors.YardError) as caught:
            function(*arguments)
        self.assertEqual(type(caught.exception).__name__, kind, (function, arguments))
        self.assertIs(caught.exception.value, value, (function, arguments))

    def test_right_values_are_taken(self):
        for function, kinds in FUNCTIONS:
            function(*[RIGHT[kind] for kind in kinds])

    def test_each_wrong_value_raises_its_error_with_this_value(self):
        for function, kinds in FUNCTIONS:
            for at, kind in enumerate(kinds):
                for value in WRONG[kind][1] if kind in WRONG else ():
                    arguments = [RIGHT[own] for own in kinds]
                    arguments[at] = value
                    self.refused(function, arguments, WRONG[kind][0], value)

    def test_of_several_wrong_values_the_first_is_told(self):
        for function, kinds in FUNCTIONS:
            wrong = [at for at, kind in enumerate(kinds) if kind in WRONG]
            for first, second in combinations(wrong, 2):
                for value in WRONG[kinds[first]][1]:
                    for other in WRONG[kinds[second]][1][:6]:
                        arguments = [RIGHT[own] for own in kinds]
                        arguments[first] = value
                        arguments[second] = other
                        self.refused(function, arguments, WRONG[kinds[first]][0], value)

    def test_all_values_wrong(self):
        for function, kinds in FUNCTIONS:
            for value in (None, True, [], "", -1):
                self.refused(function, [value for _ in kinds], WRONG[kinds[0]][0], value)

    def test_works_of_another_yard_are_no_works_of_this(self):
        for function, kinds in FUNCTIONS:
            if kinds[0] == "yard" and len(kinds) > 1 and kinds[1] not in ("other yard", "ships"):
                arguments = [OTHER] + [RIGHT[own] for own in kinds[1:]]
                self.refused(function, arguments, WRONG[kinds[1]][0], arguments[1])

    def test_a_yard_stands_as_it_was_behind_refused_calls(self):
        text = YARD.text
        self.test_each_wrong_value_raises_its_error_with_this_value()
        self.assertEqual((YARD.works, YARD.needs, YARD.text), (WORKS, NEEDS, text))
        self.assertEqual(YARD.names, ("hull", "keel", "paint"))

    def test_wrong_lists_and_dicts_are_not_changed(self):
        value = [["hull", 5], {"keel": [3]}]
        for function, kinds in FUNCTIONS:
            for at, kind in enumerate(kinds):
                arguments = [RIGHT[own] for own in kinds]
                arguments[at] = value
                try:
                    function(*arguments)
                except errors.YardError:
                    pass
        self.assertEqual(value, [["hull", 5], {"keel": [3]}])

    def test_journals_are_told_by_a_number(self):
        for value in ANY + (YARD, [YARD.text], b"deeds", (YARD.text + "\ndeeds",)):
            for function in (read_journal, Desk):
                with self.assertRaises(errors.BadJournal) as caught:
                    function(value)
                self.assertEqual(repr(caught.exception.value), "1" if isinstance(value, str) else "0")

    def test_shows_functions_tell_a_bool_for_any_value(self):
        for function, kinds in FUNCTIONS:
            if kinds[-1] == "value":
                for value in ANY:
                    told = function(*[RIGHT[own] for own in kinds[:-1]], value)
                    self.assertIs(told, False, (function, value))


if __name__ == "__main__":
    unittest.main()
