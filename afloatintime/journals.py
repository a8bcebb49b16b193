"""Journals: all that stands on a bench, as a text."""

from afloatintime.benches import Bench
from afloatintime.errors import BadJournal, BadYard, YardError
from afloatintime.yards import read_yard


def journal(bench):
    """The journal of this bench."""
    return "\n".join([bench.yard.text, "deeds"] + list(bench.lines))


def yard_of(lines):
    """The YARD of these lines, the first ones of a journal."""
    # Without any lines it is the first one of all that cannot stand, as in a text without signs.
    try:
        return read_yard("\n".join(lines))
    except BadYard as error:
        raise BadJournal(error.value)


def read_journal(text):
    """The bench of this journal."""
    if not isinstance(text, str):
        raise BadJournal(0)
    lines = text.split("\n")
    many = lines.index("deeds") if "deeds" in lines else len(lines)
    bench = Bench(yard_of(lines[:many]))
    if many == len(lines):
        raise BadJournal(many + 1)
    for number, line in enumerate(lines[many + 1 :], start=many + 2):
        try:
            bench.do(line)
        except YardError:
            raise BadJournal(number)
    return bench
