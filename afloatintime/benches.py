"""A bench: a Log under hands, whose deeds can be taken back, done again, and tried."""

from afloatintime.errors import BadTask, NoBlock, NothingToRedo, NothingToUndo
from afloatintime.keeping import Log
from afloatintime.words import task_of

DEEDS = (("began", 2), ("lasted", 2), ("unsay", 1))


def act(log, task):
    """Do what a deed's line tells."""
    word, name, numbers = task
    if word == "began":
        log.began(name, numbers[0], numbers[1])
    elif word == "lasted":
        log.lasted(name, numbers[0], numbers[1])
    else:
        log.unsay(name, numbers[0])


class Bench:
    """A Log of a YARD, and the lines of the deeds that stand."""

    def __init__(self, yard):
        self.held = Log(yard)
        self.yard = yard
        self.deeds = 0
        self.lines = ()
        # What was told ahead of each deed that stands, and the lines of those that were taken back, the last one last.
        self.before = ()
        self.undone = ()
        self.trials = 0
        self.kept = None

    def __eq__(self, other):
        return isinstance(other, Bench) and self.yard == other.yard and self.lines == other.lines

    def __len__(self):
        return len(self.held.told)

    def log(self):
        """A Log that stands as this one does, by itself."""
        other = Log(self.yard)
        other.stand(self.held.told)
        return other

    def put(self, line, undone):
        """Do the deed of this line; those that can be done again are then these."""
        task = task_of(line, DEEDS)
        if task is None:
            raise BadTask(line)
        told = self.held.told
        act(self.held, task)
        self.before += (told,)
        self.lines += (line,)
        self.undone = undone
        self.deeds = len(self.lines)

    def do(self, line):
        """Do the deed of this line."""
        self.put(line, ())

    def undo(self):
        """Take the last deed back that stands."""
        if not self.lines:
            raise NothingToUndo(None)
        self.held.stand(self.before[-1])
        self.undone += (self.lines[-1],)
        self.before = self.before[:-1]
        self.lines = self.lines[:-1]
        self.deeds = len(self.lines)

    def redo(self):
        """Do the deed again that was taken back last."""
        if not self.undone:
            raise NothingToRedo(None)
        self.put(self.undone[-1], self.undone[:-1])

    def keep(self):
        """Let the innermost trial's deeds stay."""
        if self.trials == 0:
            raise NoBlock(None)
        self.kept = True

    def tried(self, look, *, keep=False):
        """What look tells of this bench; what it does stays only if it is kept, and no error came of it."""
        held, deeds, lines, before, undone = self.held, self.deeds, self.lines, self.before, self.undone
        outer = self.kept
        stays = None
        # The trial's deeds are done to a copy: so what was there needs only to be put back.
        self.held = held.copy()
        self.kept = None
        self.trials += 1
        try:
            told = look(self)
            if keep is True or self.kept is True:
                stays = True
        finally:
            if stays is None:
                self.held, self.deeds = held, deeds
                self.lines, self.before, self.undone = lines, before, undone
            self.kept = outer
            self.trials -= 1
        return told

    def copy(self):
        """An independent bench, alike in all things, outside of all trials."""
        other = Bench(self.yard)
        other.held = self.held.copy()
        other.deeds = self.deeds
        other.lines = self.lines
        other.before = self.before
        other.undone = self.undone
        return other
