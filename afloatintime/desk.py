"""A desk: a bench that is asked, and told, by lines."""

from afloatintime.journals import read_journal
from afloatintime.rings import pace
from afloatintime.tables import day_of
from afloatintime.words import task_of

ASKS = (("day", 1), ("done", 1), ("early", 1), ("pace", 0))


def text_of_fraction(number):
    """A FRACTION as it stands in texts."""
    top, bottom = number
    return str(top) if bottom == 1 else f"{top}/{bottom}"


def text_of_clashes(clashes):
    """Clashes as a desk tells them."""
    if not clashes:
        return "none"
    return "; ".join([f"{ship} {name} {day}" for ship, name, day in clashes])


def answer(bench, task):
    """What is told of one work."""
    word, name, numbers = task
    if word == "day":
        return str(bench.held.day(name, numbers[0]))
    if word == "done":
        return str(bench.held.done(name, numbers[0]))
    if word == "early":
        return str(day_of(bench.yard, (), (), name, numbers[0]))
    return text_of_fraction(pace(bench.yard, name))


class Desk:
    """A bench, and what is said of it."""

    def __init__(self, text):
        self.bench = read_journal(text)

    def say(self, line):
        """Do what this line tells, or answer what it asks."""
        if line == "clashes":
            return text_of_clashes(self.bench.held.clashes())
        asked = task_of(line, ASKS)
        if asked is not None:
            return answer(self.bench, asked)
        if line == "undo":
            self.bench.undo()
        elif line == "redo":
            self.bench.redo()
        else:
            self.bench.do(line)
        return "done"
