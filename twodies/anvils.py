"""On how few anvils the coins can have been struck, each with one face die at a time.

A mask has a bit for each place in the list of coins. What the coins that are left need hangs on
their mask alone, not on the order in which the others were struck; so 256 masks at most are
gone through, where there may be 40320 orders.
"""

from twodies.orders import mask_of_earlier


# The coins are handed over as a list in which their numbers rise.
class Striking:
    def __init__(self, coins):
        self.coins = coins
        self.earlier_masks = [mask_of_earlier(coins, coin) for coin in coins]
        self.face_masks = masks_of_faces(coins)
        # By the mask of the coins that are left: how many anvils are needed from there on.
        self.needed = [0]
        for left in range(1, 1 << len(coins)):
            self.needed.append(fewest_for(self, left))


def masks_of_faces(coins):
    masks = {}
    for place, coin in enumerate(coins):
        masks[coin.face] = masks.get(coin.face, 0) | (1 << place)
    return list(masks.values())


def free_places(striking, left):
    places = []
    for place, mask in enumerate(striking.earlier_masks):
        if left & (1 << place) != 0 and left & mask == 0:
            places.append(place)
    return places


def left_behind(left, place):
    return left ^ (1 << place)


# While a coin is struck, a face die is in use if it still has a coin to strike (this one too)
# and has struck one (this one too).
def dies_in_use(striking, left, place):
    behind = left_behind(left, place)
    return len([mask for mask in striking.face_masks if left & mask != 0 and behind & mask != mask])


# A mask with one coin less is a lower number, so it was gone through before.
def needed_with(striking, left, place):
    return max(dies_in_use(striking, left, place), striking.needed[left_behind(left, place)])


def fewest_for(striking, left):
    return min([needed_with(striking, left, place) for place in free_places(striking, left)])


def fewest_anvils(striking):
    return striking.needed[-1]


# The lowest place that needs no more is always right: such an order goes on behind it.
def place_to_strike(striking, left):
    places = free_places(striking, left)
    return [place for place in places if needed_with(striking, left, place) <= fewest_anvils(striking)][0]


# The first order that needs no more anvils than the fewest.
def order_on_fewest(striking):
    order = []
    left = (1 << len(striking.coins)) - 1
    while left != 0:
        place = place_to_strike(striking, left)
        order.append(striking.coins[place])
        left = left_behind(left, place)
    return order
