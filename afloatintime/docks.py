"""Docks: whatever waited for the ship ahead waits for one further ahead; the fewest for a wished pace."""

from afloatintime.chains import is_chain
from afloatintime.climbs import slowest_ring
from afloatintime.errors import BadDocks, BadMore, BadNumber, BadPace
from afloatintime.paths import leading_to
from afloatintime.values import is_ascending, is_between, is_integer, is_less, is_name, is_pace, is_tuple_of
from afloatintime.yards import MOST_BACK, Yard, check_name, check_yard, weights_of

MOST_DOCKS = 4
MOST_TOTAL = 8


def is_dock(yard, value):
    """Whether any value is a pair of a NAME and of ascending numbers of NEEDS, one at least."""
    if not is_tuple_of(value, 2) or not is_name(value[0]):
        return False
    numbers = value[1]
    if not isinstance(numbers, tuple) or not numbers:
        return False
    return all([is_between(number, 0, len(yard.needs) - 1) for number in numbers]) and is_ascending(numbers)


def are_docks(yard, value):
    """Whether any value is DOCKS of this YARD."""
    if not isinstance(value, tuple) or not 1 <= len(value) <= MOST_DOCKS:
        return False
    if not all([is_dock(yard, dock) for dock in value]):
        return False
    held = sorted([number for _, numbers in value for number in numbers])
    return is_ascending([name for name, _ in value]) and is_ascending(held)


def most_more(yard, dock):
    """How many more of this DOCK are let."""
    return MOST_BACK - max([yard.needs[number][2] for number in dock[1]])


def are_more(yard, docks, value):
    """Whether any value is MORE of these DOCKS."""
    if not is_tuple_of(value, len(docks)):
        return False
    return all([is_between(many, 0, most_more(yard, dock)) for many, dock in zip(value, docks)])


def check_docks(yard, docks):
    """NoYard, BadDocks unless a YARD and DOCKS of it."""
    check_yard(yard)
    if not are_docks(yard, docks):
        raise BadDocks(docks)


def check_wish(yard, docks, name, pace):
    """What fewest raises."""
    check_docks(yard, docks)
    check_name(yard, name)
    if not is_pace(pace):
        raise BadPace(pace)


def check_most(most):
    """BadNumber unless a total to which all MORE may be looked at."""
    if not is_between(most, 0, MOST_TOTAL):
        raise BadNumber(most)


def by_number(docks, more):
    """How many more ships each NEED of a DOCK leads back, by its number."""
    return {number: many for (_, numbers), many in zip(docks, more) for number in numbers}


def needs_with(yard, docks, more):
    """The NEEDS with MORE, in the sequence of their numbers."""
    added = by_number(docks, more)
    needs = []
    for number, (before, behind, back, wait) in enumerate(yard.needs):
        needs.append((before, behind, back + added.get(number, 0), wait))
    return needs


def widened(yard, docks, more):
    """The YARD with MORE."""
    needs = {need: True for need in needs_with(yard, docks, more)}
    return Yard(yard.works, tuple(sorted(needs)))


def with_more(yard, docks, more):
    """The YARD that has the NEEDS with MORE, sorted, each once."""
    check_docks(yard, docks)
    if not are_more(yard, docks, more):
        raise BadMore(more)
    return widened(yard, docks, more)


def all_more(yard, docks, total):
    """All MORE of this total, ascending."""
    found = [()]
    for dock in docks:
        most = most_more(yard, dock)
        found = [more + (many,) for more in found for many in range(min(most, total - sum(more)) + 1)]
    return [more for more in found if sum(more) == total]


def pace_with(yard, docks, name, more):
    """The pace of this work with MORE."""
    return slowest_ring(widened(yard, docks, more), name)[1]


def least_pace(yard, docks, name, total):
    """The least pace of this work with MORE of this total; None if there are no such."""
    least = None
    for more in all_more(yard, docks, total):
        found = pace_with(yard, docks, name, more)
        if least is None or is_less(found, least):
            least = found
    return least


def best_paces(yard, docks, name, most):
    """For each total from 0 to most the least pace of this work; None where there are no MORE of it."""
    check_docks(yard, docks)
    check_name(yard, name)
    check_most(most)
    return tuple([least_pace(yard, docks, name, total) for total in range(most + 1)])


def enough(yard, docks, name, pace, most):
    """All MORE that do, ascending, of the least total; () if none of a total up to most does."""
    for total in range(most + 1):
        rows = all_more(yard, docks, total)
        found = [more for more in rows if not is_less(pace, pace_with(yard, docks, name, more))]
        if found:
            return tuple(found)
    return ()


def fewest(yard, docks, name, pace):
    """All MORE of the least total with which the pace of this work is at most this one; () if there are none."""
    check_wish(yard, docks, name, pace)
    return enough(yard, docks, name, pace, MOST_TOTAL)


def slow_loop(yard, docks, name, more):
    """A LOOP that has the pace of this work with MORE."""
    needs = needs_with(yard, docks, more)
    return tuple([needs.index(need) for need in slowest_ring(widened(yard, docks, more), name)[0]])


def open_docks(yard, docks, more, loop):
    """The numbers of the DOCKS that have a NEED in this LOOP, and of which one more is let."""
    found = []
    for at, dock in enumerate(docks):
        if any([number in dock[1] for number in loop]) and more[at] < most_more(yard, dock):
            found.append(at)
    return found


def one_more(more, at):
    """MORE, with one more of this DOCK."""
    return more[:at] + (more[at] + 1,) + more[at + 1 :]


def too_few(yard, docks, name, pace, most):
    """A TREE that shows that no MORE of total most or less does; None if some do."""
    check_wish(yard, docks, name, pace)
    check_most(most)
    if enough(yard, docks, name, pace, most):
        return None
    # The TREE for MORE is the same by whatever branches one comes to it: so each is made once, the last ones first.
    trees = {}
    for total in reversed(range(most + 1)):
        for more in all_more(yard, docks, total):
            loop = slow_loop(yard, docks, name, more)
            numbers = open_docks(yard, docks, more, loop) if total < most else []
            trees[more] = (loop, tuple([(at, trees[one_more(more, at)]) for at in numbers]))
    return trees[tuple([0 for _ in docks])]


def is_loop(yard, name, value):
    """Whether any value is a LOOP whose works lead to this one."""
    if not is_chain(yard, value) or not value:
        return False
    start = yard.needs[value[0]][0]
    return start == yard.needs[value[-1]][1] and start in leading_to(yard.needs, name)


def is_too_slow(yard, docks, pace, more, loop):
    """Whether the days of this LOOP are more than pace times its back with MORE."""
    added = by_number(docks, more)
    weights = weights_of(yard)
    days = sum([weights[yard.needs[number]] for number in loop])
    back = sum([yard.needs[number][2] + added.get(number, 0) for number in loop])
    return is_less(pace, (days, back))


def are_branches(value, numbers):
    """Whether any value is a tuple of pairs of one of these numbers and any value, in sequence."""
    if not is_tuple_of(value, len(numbers)):
        return False
    return all([is_tuple_of(row, 2) and is_integer(row[0]) and row[0] == at for row, at in zip(value, numbers)])


def is_tree(yard, docks, name, pace, most, value):
    """Whether any value is a TREE that shows that no MORE of total most or less does."""
    ahead = [(value, tuple([0 for _ in docks]))]
    while ahead:
        tree, more = ahead.pop()
        if not is_tuple_of(tree, 2) or not is_loop(yard, name, tree[0]):
            return False
        loop, branches = tree
        numbers = open_docks(yard, docks, more, loop) if sum(more) < most else []
        if not is_too_slow(yard, docks, pace, more, loop) or not are_branches(branches, numbers):
            return False
        ahead.extend([(branch, one_more(more, at)) for at, branch in branches])
    return True


def shows_too_few(yard, docks, name, pace, most, value):
    """Whether any value is such a TREE, or None where some MORE do."""
    check_wish(yard, docks, name, pace)
    check_most(most)
    if value is None:
        return bool(enough(yard, docks, name, pace, most))
    return is_tree(yard, docks, name, pace, most, value)
