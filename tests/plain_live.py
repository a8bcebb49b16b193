"""What the document says of pictures, benches, journals and desks, gone through plainly, with no thought of speed.

A bench is told here by the lines that stand and those that were taken back: all else is told by them from nothing.
"""

import re

from tests import plain, plain_far
from tests.plain_wide import PlainLog

NUMBER = r"(0|-?[1-9][0-9]*)"
NAME = r"([a-z][a-z0-9]{0,7})"
DEED = re.compile(rf"(?:(began|lasted) {NAME} {NUMBER} {NUMBER}|(unsay) {NAME} {NUMBER})")
ASK = re.compile(rf"(day|done|early) {NAME} {NUMBER}|(pace) {NAME}")


def chart(works, needs, ships, first, many):
    """The lines of a chart, made sign by sign."""
    rows = plain_far.days(works, needs, (), (), ships[-1] + 1)
    lines = []
    for ship in ships:
        for place, (name, last) in enumerate(works):
            begin = rows[ship][place]
            line = (name + " " * 9)[:9]
            for day in range(first, first + many):
                if last == 0 and begin == day:
                    line += "|"
                elif begin <= day and begin + last > day:
                    line += "#"
                else:
                    line += "."
            lines.append(line)
    return "\n".join(lines)


def deed(log, line):
    """Do to a PlainLog what this line tells: None, or the name of the error that is raised, and its value."""
    found = DEED.fullmatch(line) if isinstance(line, str) else None
    if found is None:
        return ("BadTask", line)
    word, name = found[1] or found[5], found[2] or found[6]
    ship = int(found[3] or found[7])
    if name not in dict(log.works):
        return ("NoWork", name)
    if not 0 <= ship <= 999:
        return ("BadShip", ship)
    spot = (ship, name)
    if word == "unsay":
        if spot not in log.begins and spot not in log.lasts:
            return ("NotTold", spot)
        log.begins.pop(spot, None)
        log.lasts.pop(spot, None)
        return None
    number = int(found[4])
    if not 0 <= number <= (99999 if word == "began" else 999):
        return ("BadDay" if word == "began" else "BadDays", number)
    rows = log.begins if word == "began" else log.lasts
    if spot in rows:
        return ("Taken", spot)
    rows[spot] = number
    return None


class PlainBench:
    """The lines of all deeds that stand, and of those that were taken back, the last one last."""

    def __init__(self, works, needs):
        self.works, self.needs = works, needs
        self.lines, self.undone = [], []

    def log(self):
        log = PlainLog(self.works, self.needs)
        for line in self.lines:
            assert deed(log, line) is None
        return log

    def do(self, line):
        refused = deed(self.log(), line)
        if refused is None:
            self.lines = self.lines + [line]
            self.undone = []
        return refused

    def undo(self):
        if not self.lines:
            return ("NothingToUndo", None)
        self.undone = self.undone + self.lines[-1:]
        self.lines = self.lines[:-1]
        return None

    def redo(self):
        if not self.undone:
            return ("NothingToRedo", None)
        self.lines = self.lines + self.undone[-1:]
        self.undone = self.undone[:-1]
        return None

    def text(self):
        works = [f"work {name} {days}" for name, days in self.works]
        needs = [" ".join(["need", *map(str, need)]) for need in self.needs]
        return "\n".join(works + needs + ["deeds"] + self.lines)


def says(bench, line):
    """What a desk answers, or the name of the error that is raised, and its value; a PlainBench stands for its own."""
    if line in ("undo", "redo"):
        return getattr(bench, line)() or "done"
    if line == "clashes":
        return "; ".join(" ".join(map(str, row)) for row in bench.log().clashes()) or "none"
    found = ASK.fullmatch(line) if isinstance(line, str) else None
    if found is None:
        return bench.do(line) or "done"
    word, name = found[1] or found[4], found[2] or found[5]
    if name not in dict(bench.works):
        return ("NoWork", name)
    if word == "pace":
        pace = plain.pace(bench.works, bench.needs, name)
        return str(pace)
    ship = int(found[3])
    if not 0 <= ship <= (10**18 if word == "early" else 999):
        return ("BadShip", ship)
    if word == "early":
        place = [own for own, _ in bench.works].index(name)
        return str(plain_far.days(bench.works, bench.needs, (), (), ship + 1)[ship][place])
    return str(getattr(bench.log(), word)(name, ship))


def line_that_fails(text):
    """The number of the first line that cannot stand in a journal; None if it is one."""
    lines = text.split("\n")
    if lines[0] == "deeds":
        return 1
    many = next((at for at, line in enumerate(lines) if line == "deeds"), len(lines))
    number = plain.line_that_fails("\n".join(lines[:many]))
    if number is not None or many == len(lines):
        return number or many + 1
    works = tuple((words[1], int(words[2])) for words in map(str.split, lines[:many]) if words[0] == "work")
    needs = tuple(
        (words[1], words[2], int(words[3]), int(words[4])) for words in map(str.split, lines[:many]) if words[0] == "need"
    )
    log = PlainLog(works, needs)
    for at in range(many + 1, len(lines)):
        if deed(log, lines[at]) is not None:
            return at + 1
    return None
