"""Numbers that come round, for the ships 0, 1, 2 and so on, without end.

They are told as (firsts, again, more): the numbers of firsts, one after the other, and then those of again, over
and over, each one more greater each time.
"""

from math import lcm


def number_at(told, at):
    """The number at this place."""
    firsts, again, more = told
    if at < len(firsts):
        return firsts[at]
    times, place = divmod(at - len(firsts), len(again))
    return again[place] + times * more


def least_turn(again, more):
    """The least number of places behind which these come again, each time the same greater."""
    turn = len(again)
    for least in range(1, turn):
        if turn % least == 0 and more * least % turn == 0:
            rise = more * least // turn
            if all([again[at + least] == again[at] + rise for at in range(turn - least)]):
                return least
    return turn


def shortest(numbers, turn, more):
    """What comes round as the last turn of these numbers does: again as short as can be, then firsts."""
    first = len(numbers) - turn
    least = least_turn(numbers[first:], more)
    rise = more * least // turn
    while first > 0 and numbers[first - 1] + rise == numbers[first - 1 + least]:
        first -= 1
    return (tuple(numbers[:first]), tuple(numbers[first : first + least]), rise)


def difference(one, other):
    """By how much the numbers of one are above those of other, place by place."""
    turn = lcm(len(one[1]), len(other[1]))
    many = max(len(one[0]), len(other[0])) + turn
    more = turn // len(one[1]) * one[2] - turn // len(other[1]) * other[2]
    return shortest([number_at(one, at) - number_at(other, at) for at in range(many)], turn, more)
