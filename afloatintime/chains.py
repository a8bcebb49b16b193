"""CHAINS: tuples of numbers of NEEDS, each of which leads on from where the one ahead of it leads to."""

from afloatintime.values import is_between
from afloatintime.yards import weights_of


def is_chain(yard, value):
    """Whether any value is a CHAIN of this YARD."""
    if not isinstance(value, tuple):
        return False
    if not all([is_between(number, 0, len(yard.needs) - 1) for number in value]):
        return False
    needs = needs_of(yard, value)
    return all([needs[at][1] == needs[at + 1][0] for at in range(len(needs) - 1)])


def needs_of(yard, chain):
    """The NEEDS of these numbers."""
    return tuple([yard.needs[number] for number in chain])


def numbers_of(yard, needs):
    """The numbers of these NEEDS."""
    return tuple([yard.needs.index(need) for need in needs])


def ends_at(yard, chain, name):
    """Whether this CHAIN leads to this work, from one work or other."""
    return not chain or yard.needs[chain[-1]][1] == name


def begins_at(yard, chain, name):
    """Whether this CHAIN leads from this work, to one work or other."""
    return not chain or yard.needs[chain[0]][0] == name


def best_chains(yard, goal, pace):
    """For each work that leads to goal a CHAIN to it with the greatest days less pace times back.

    That is a pair (worth, CHAIN), the worth taken times the pace's bottom, by NAMES. No ring that leads to goal may
    have more days than pace times its back: going round none is worth anything then.
    """
    top, bottom = pace
    weights = weights_of(yard)
    best = {goal: (0, ())}
    better = True
    while better:
        better = False
        for number, need in enumerate(yard.needs):
            before, behind, back, _ = need
            if behind not in best:
                continue
            worth = best[behind][0] + weights[need] * bottom - back * top
            if before not in best or worth > best[before][0]:
                best[before] = (worth, (number,) + best[behind][1])
                better = True
    return best
