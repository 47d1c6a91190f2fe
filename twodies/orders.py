"""The orders in which coins can have been struck.

Coins are handed over as a list in which their numbers rise.
"""

from twodies.coins import earlier
from twodies.coins import without
from twodies.rows import row_between


# Where no row leads from one coin to the other, some order has them the other way round.
def surely_before(coins, coin, other):
    return row_between(coins, coin, other, earlier) is not None


# With a coin that would have to be earlier than itself there is no order: the coins that
# lead from it back to it, or None. The coins that are there have an order without it.
def row_to_itself(coins, coin):
    return row_between(coins, coin, coin, earlier)


# Some order has a coin as soon as just those that are surely before it were struck.
def first_place(coins, coin):
    return len([other for other in coins if surely_before(coins, other, coin)])


def last_place(coins, coin):
    behind = [other for other in coins if surely_before(coins, coin, other)]
    return len(coins) - 1 - len(behind)


# A bit stands for a place in the list of coins, as numbers of coins may be large.
def mask_of_earlier(coins, coin):
    mask = 0
    for place, other in enumerate(coins):
        if earlier(other, coin):
            mask = mask | (1 << place)
    return mask


# ways[struck] tells in how many orders just the coins of that mask can be struck first;
# counting by masks goes through 256 of these at most, where there may be 40320 orders.
def count_orders(coins):
    masks = [mask_of_earlier(coins, coin) for coin in coins]
    ways = [1]
    for struck in range(1, 1 << len(coins)):
        ways.append(count_by_last(struck, masks, ways))
    return ways[-1]


def count_by_last(struck, masks, ways):
    total = 0
    for place, mask in enumerate(masks):
        bit = 1 << place
        if struck & bit != 0 and struck & mask == mask:
            total = total + ways[struck ^ bit]
    return total


def is_free(coins, coin):
    return not any([earlier(other, coin) for other in coins])


# The lowest coin that may come next is always right: the others have an order behind it.
def first_order(coins):
    order = []
    left = coins
    while left:
        free = [coin for coin in left if is_free(left, coin)]
        order.append(free[0])
        left = without(left, free[0])
    return order
