"""Kept up: what is told of works, late and in whatever sequence, and the days that lie ahead by it."""

from afloatintime.errors import BadDay, BadDays, BadShip, NotTold, Taken
from afloatintime.reckoning import links_of
from afloatintime.tables import greatest_back
from afloatintime.values import is_between
from afloatintime.yards import check_name, check_yard, lasts_of

MOST_SHIP = 999
MOST_DAY = 99999
MOST_DAYS = 999


def lasts_told(told):
    """The pairs (NAME, last) that are told of a ship."""
    return tuple([(name, last) for name, _, last in told if last is not None])


def reckoned(links, lasts, told, ahead):
    """The days of all works of a ship, and the least ones that keep all NEEDS with them behind.

    Told is what is told of it, and ahead a pair (days, told lasts) for each ship ahead, as far as NEEDS lead back.
    """
    begins = {name: begin for name, begin, _ in told if begin is not None}
    days = [0 for _ in links]
    least = [0 for _ in links]
    rows = list(ahead) + [(days, lasts_told(told))]
    longer = [{name: last - lasts[name] for name, last in told_lasts} for _, told_lasts in rows]
    for place, name, needs in links:
        for before, before_name, back, weight in needs:
            if back < len(rows):
                at = len(ahead) - back
                day = rows[at][0][before] + weight + longer[at].get(before_name, 0)
                least[place] = max(least[place], day)
        days[place] = begins.get(name, least[place])
    return (tuple(days), tuple(least))


class Log:
    """What is told of the works of a YARD's ships."""

    def __init__(self, yard):
        check_yard(yard)
        self.yard = yard
        self.told = ()
        self.work = 0
        self.begins = {}
        self.lasts = {}
        self.steps = {}

    def __eq__(self, other):
        return isinstance(other, Log) and self.yard == other.yard and self.told == other.told

    def check(self, name, ship):
        """NoWork, BadShip unless a work and a ship of which something may be told."""
        check_name(self.yard, name)
        if not is_between(ship, 0, MOST_SHIP):
            raise BadShip(ship)

    def told_of(self, ship):
        """The tuple of (NAME, begin, last) for all works of this ship of which something is told."""
        found = []
        for name in self.yard.names:
            begin = self.begins.get((ship, name))
            last = self.lasts.get((ship, name))
            if begin is not None or last is not None:
                found.append((name, begin, last))
        return tuple(found)

    def tell(self):
        """Put together anew what is told."""
        spots = sorted({spot: True for spot in list(self.begins) + list(self.lasts)})
        self.told = tuple([spot + (self.begins.get(spot), self.lasts.get(spot)) for spot in spots])

    def began(self, name, ship, day):
        """This work of this ship began on this day."""
        self.check(name, ship)
        if not is_between(day, 0, MOST_DAY):
            raise BadDay(day)
        if (ship, name) in self.begins:
            raise Taken((ship, name))
        self.begins[ship, name] = day
        self.tell()

    def lasted(self, name, ship, days):
        """This work of this ship lasts so many days."""
        self.check(name, ship)
        if not is_between(days, 0, MOST_DAYS):
            raise BadDays(days)
        if (ship, name) in self.lasts:
            raise Taken((ship, name))
        self.lasts[ship, name] = days
        self.tell()

    def unsay(self, name, ship):
        """Nothing is told of this work of this ship any more."""
        self.check(name, ship)
        if (ship, name) not in self.begins and (ship, name) not in self.lasts:
            raise NotTold((ship, name))
        self.begins.pop((ship, name), None)
        self.lasts.pop((ship, name), None)
        self.tell()

    def steps_to(self, ship):
        """For each of the ships 0 to ship its days, and the least ones: these steps are used."""
        links = links_of(self.yard)
        lasts = lasts_of(self.yard)
        back = greatest_back(self.yard)
        found = []
        ahead = ()
        for own in range(ship + 1):
            told = self.told_of(own)
            if (told, ahead) not in self.steps:
                self.steps[told, ahead] = reckoned(links, lasts, told, ahead)
            step = self.steps[told, ahead]
            found.append(step)
            ahead = (ahead + ((step[0], lasts_told(told)),))[-back:] if back else ()
        self.work = len(self.steps)
        return found

    def day(self, name, ship):
        """The day of this work of this ship, told or the least one by all that is told."""
        self.check(name, ship)
        return self.steps_to(ship)[ship][0][self.yard.names.index(name)]

    def done(self, name, ship):
        """The day on which this work of this ship is done."""
        day = self.day(name, ship)
        return day + self.lasts.get((ship, name), lasts_of(self.yard)[name])

    def clashes(self):
        """(ship, NAME, day) for all told begins that are less than the least day, which is day."""
        last = max([ship for ship, _, _, _ in self.told], default=-1)
        steps = self.steps_to(last)
        found = []
        for ship, name, begin, _ in self.told:
            least = steps[ship][1][self.yard.names.index(name)]
            if begin is not None and begin < least:
                found.append((ship, name, least))
        return tuple(found)

    def stand(self, told):
        """Just this is told, whatever was told ahead; the steps that have been kept stay."""
        self.told = told
        self.begins = {(ship, name): begin for ship, name, begin, _ in told if begin is not None}
        self.lasts = {(ship, name): last for ship, name, _, last in told if last is not None}

    def copy(self):
        """An independent Log, alike in all things."""
        other = Log(self.yard)
        other.stand(self.told)
        other.work = self.work
        other.steps = {key: self.steps[key] for key in self.steps}
        return other
