"""Yards: WORKS, and NEEDS between works of ships that come one after the other."""

from afloatintime.errors import BadDays, BadNeed, BadNeeds, BadNumber, BadRing, BadWorks, BadYard
from afloatintime.errors import Full, NoNeed, NoWork, NoYard
from afloatintime.paths import leading_to, order_within_ship
from afloatintime.values import is_ascending, is_between, is_name, is_one_of, is_tuple_of
from afloatintime.words import integer_of

MOST_WORKS = 12
MOST_DAYS = 99
MOST_NEEDS = 40
MOST_BACK = 9
MOST_WAIT = 99


class Yard:
    """What each ship wants done, and what waits for what."""

    def __init__(self, works, needs):
        if not are_works(works):
            raise BadWorks(works)
        lasts = {name: days for name, days in works}
        if not are_needs(lasts, needs):
            raise BadNeeds(needs)
        if order_within_ship(list(lasts), needs) is None:
            raise BadRing(needs)
        self.works = works
        self.needs = needs
        self.names = tuple(lasts)
        self.text = text_of(works, needs)

    def __eq__(self, other):
        return isinstance(other, Yard) and self.text == other.text


def is_work(value):
    """Whether any value is a pair (NAME, days)."""
    return is_tuple_of(value, 2) and is_name(value[0]) and is_between(value[1], 0, MOST_DAYS)


def are_works(value):
    """Whether any value is WORKS."""
    if not isinstance(value, tuple) or not 1 <= len(value) <= MOST_WORKS:
        return False
    if not all([is_work(work) for work in value]):
        return False
    return is_ascending([name for name, _ in value])


def is_need(lasts, value):
    """Whether any value is a NEED of the works whose days are lasts, by NAMES."""
    if not is_tuple_of(value, 4):
        return False
    before, behind, back, wait = value
    if not is_one_of(lasts, before) or not is_one_of(lasts, behind):
        return False
    if not is_between(back, 0, MOST_BACK) or not is_between(wait, -MOST_WAIT, MOST_WAIT):
        return False
    return lasts[before] + wait >= 0


def are_needs(lasts, value):
    """Whether any value is NEEDS of the works whose days are lasts, by NAMES."""
    if not isinstance(value, tuple) or len(value) > MOST_NEEDS:
        return False
    return all([is_need(lasts, need) for need in value]) and is_ascending(value)


def text_of(works, needs):
    """The text of the YARD of these WORKS and NEEDS."""
    lines = [f"work {name} {days}" for name, days in works]
    lines.extend([f"need {before} {behind} {back} {wait}" for before, behind, back, wait in needs])
    return "\n".join(lines)


def check_yard(yard):
    """NoYard unless a YARD."""
    if not isinstance(yard, Yard):
        raise NoYard(yard)


def check_name(yard, name):
    """NoWork unless the NAME of a work of this YARD."""
    if not is_one_of(yard.names, name):
        raise NoWork(name)


def lasts_of(yard):
    """The days of each work of this YARD, by NAMES."""
    return {name: days for name, days in yard.works}


def weights_of(yard):
    """The weight of each NEED of this YARD, by NEEDS."""
    lasts = lasts_of(yard)
    return {need: lasts[need[0]] + need[3] for need in yard.needs}


def is_need_of(yard, value):
    """Whether any value is one of the NEEDS of this YARD."""
    return is_need(lasts_of(yard), value) and value in yard.needs


def days_of(yard, name):
    """The days of this work."""
    check_yard(yard)
    check_name(yard, name)
    return lasts_of(yard)[name]


def needs_to(yard, name):
    """The NEEDS with this work behind."""
    check_yard(yard)
    check_name(yard, name)
    return tuple([need for need in yard.needs if need[1] == name])


def needs_from(yard, name):
    """The NEEDS with this work before."""
    check_yard(yard)
    check_name(yard, name)
    return tuple([need for need in yard.needs if need[0] == name])


def upstream(yard, name):
    """The NAMES of the works from which NEEDS lead to this one, itself too."""
    check_yard(yard)
    check_name(yard, name)
    return leading_to(yard.needs, name)


def more(yard, need):
    """The YARD with this NEED, too."""
    check_yard(yard)
    if not is_need(lasts_of(yard), need) or need in yard.needs:
        raise BadNeed(need)
    if len(yard.needs) >= MOST_NEEDS:
        raise Full(MOST_NEEDS)
    return Yard(yard.works, tuple(sorted(yard.needs + (need,))))


def without(yard, need):
    """The YARD without this one of its NEEDS."""
    check_yard(yard)
    if not is_need_of(yard, need):
        raise NoNeed(need)
    return Yard(yard.works, tuple([kept for kept in yard.needs if kept != need]))


def lasting(yard, name, days):
    """The YARD in which this work lasts so many days."""
    check_yard(yard)
    check_name(yard, name)
    if not is_between(days, 0, MOST_DAYS):
        raise BadDays(days)
    if not all([days + need[3] >= 0 for need in yard.needs if need[0] == name]):
        raise BadDays(days)
    works = [(own, days if own == name else last) for own, last in yard.works]
    return Yard(tuple(works), yard.needs)


def with_docks(yard, enters, leaves, many):
    """The YARD with so many docks that hold a ship from the one work's begin to the other's end."""
    check_yard(yard)
    check_name(yard, enters)
    check_name(yard, leaves)
    if not is_between(many, 1, MOST_BACK):
        raise BadNumber(many)
    return more(yard, (leaves, enters, many, 0))


def work_of(words):
    """What these words of a line tell of a work; None if the line has another form."""
    if len(words) != 3 or words[0] != "work":
        return None
    return (words[1], integer_of(words[2]))


def need_of(words):
    """What these words of a line tell of a NEED; None if the line has another form."""
    if len(words) != 5 or words[0] != "need":
        return None
    return (words[1], words[2], integer_of(words[3]), integer_of(words[4]))


def takes_work(works, needs, work):
    """Whether this, or None, may be the next work of a text that has told so much."""
    return not needs and are_works(tuple(works + [work]))


def takes_need(works, needs, need):
    """Whether this, or None, may be the next NEED of a text that has told so much."""
    lasts = {name: days for name, days in works}
    told = tuple(needs + [need])
    return are_needs(lasts, told) and order_within_ship(list(lasts), told) is not None


def read_yard(text):
    """The YARD of this text."""
    if not isinstance(text, str):
        raise BadYard(0)
    works = []
    needs = []
    for number, line in enumerate(text.split("\n"), start=1):
        words = line.split(" ")
        work = work_of(words)
        need = need_of(words)
        if takes_work(works, needs, work):
            works.append(work)
        elif takes_need(works, needs, need):
            needs.append(need)
        else:
            raise BadYard(number)
    return Yard(tuple(works), tuple(needs))
