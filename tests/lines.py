"""Calls by their names, and the answers of a line call by call."""

from twodies.hoard import answers

BEGIN = [0]
ORDERS = [5]
ANVILS = [7]
DIES = [10]
COINS = [11]


def coin(f, v, b, w):
    return [1, f, v, b, w]


def may(f, v, b, w):
    return [2, f, v, b, w]


def lose(k):
    return [3, k]


def first(i, j):
    return [4, i, j]


def places(k):
    return [6, k]


def group(k):
    return [8, k]


def chain(i, j):
    return [9, i, j]


def joined(calls):
    return [number for call in calls for number in call]


def split(answered):
    said = []
    at = 0
    while at < len(answered):
        behind = at + 1 + answered[at]
        if behind > len(answered):
            raise AssertionError("a count tells of more numbers than there are")
        said.append(answered[at + 1:behind])
        at = behind
    return said


def ask(*calls):
    """The answers to a line, one list for each call."""
    said = split(answers(joined(calls)))
    if len(said) != len(calls):
        raise AssertionError("not one answer for each call")
    return said


def last(*calls):
    return ask(*calls)[-1]


# Eight coins of which no two have a die in common.
APART = [coin(die, 0, die, 0) for die in range(8)]

# Coins 0, 1, .., each earlier than the next one alone, by face dies and back dies in turn.
# A die of each kind is shared by two neighbours, so only neighbours are linked.
def steps(how_many):
    return [coin((k + 1) // 2, (k + 1) % 2, k // 2, k % 2) for k in range(how_many)]
