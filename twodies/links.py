"""Which coins hang together by dies that they have in common.

Coins are handed over as a list in which their numbers rise.
"""

from twodies.coins import linked
from twodies.rows import row_between


# The coins from start to goal, each linked with the next one: the fewest, and of as few the
# first; None if there are none.
def chain_between(coins, start, goal):
    if start.number == goal.number:
        return [start]
    between = row_between(coins, start, goal, linked)
    if between is None:
        return None
    return [start] + between + [goal]


def group_of(coins, coin):
    return [other for other in coins if chain_between(coins, coin, other) is not None]
