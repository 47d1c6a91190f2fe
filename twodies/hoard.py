"""The calls on a find of coins, and what they answer."""

from twodies.anvils import Striking
from twodies.anvils import fewest_anvils
from twodies.anvils import order_on_fewest
from twodies.coins import is_coin
from twodies.coins import make_coin
from twodies.coins import numbers_of
from twodies.coins import told
from twodies.coins import without
from twodies.dies import seen_dies
from twodies.links import chain_between
from twodies.links import group_of
from twodies.orders import count_orders
from twodies.orders import first_order
from twodies.orders import first_place
from twodies.orders import last_place
from twodies.orders import row_to_itself
from twodies.orders import surely_before

MOST_COINS = 8

NOT_A_COIN = -1
ONE_COIN_TWICE = -1
NO_SUCH_COIN = -2
FULL = -5
NO_CHAIN = -6
NO_ORDER = -7
NO_FIND = -9

BEGIN = 0


class Find:
    def __init__(self):
        self.coins = []
        # How many numbers were given, as none is used again when its coin is lost.
        self.given = 0


# The coin of that number, or None.
def coin_numbered(find, number):
    for coin in find.coins:
        if coin.number == number:
            return coin
    return None


def answer_begin(find, numbers):
    return [0]


def answer_coin(find, numbers):
    if not is_coin(numbers):
        return [NOT_A_COIN]
    if len(find.coins) == MOST_COINS:
        return [FULL]
    coin = make_coin(find.given, numbers)
    row = row_to_itself(find.coins, coin)
    if row is not None:
        return [NO_ORDER, len(row)] + numbers_of(row)
    find.coins.append(coin)
    find.given = find.given + 1
    return [coin.number]


def answer_may(find, numbers):
    if not is_coin(numbers):
        return [NOT_A_COIN]
    coin = make_coin(find.given, numbers)
    return [1 if row_to_itself(find.coins, coin) is None else 0]


def answer_lose(find, numbers):
    coin = coin_numbered(find, numbers[0])
    if coin is None:
        return [NO_SUCH_COIN]
    find.coins = without(find.coins, coin)
    return [len(find.coins)]


def answer_first(find, numbers):
    coin = coin_numbered(find, numbers[0])
    other = coin_numbered(find, numbers[1])
    if coin is None or other is None:
        return [NO_SUCH_COIN]
    if coin.number == other.number:
        return [ONE_COIN_TWICE]
    if surely_before(find.coins, coin, other):
        return [1]
    if surely_before(find.coins, other, coin):
        return [2]
    return [0]


def answer_orders(find, numbers):
    return [count_orders(find.coins)] + numbers_of(first_order(find.coins))


def answer_places(find, numbers):
    coin = coin_numbered(find, numbers[0])
    if coin is None:
        return [NO_SUCH_COIN]
    return [first_place(find.coins, coin), last_place(find.coins, coin)]


def answer_anvils(find, numbers):
    striking = Striking(find.coins)
    return [fewest_anvils(striking)] + numbers_of(order_on_fewest(striking))


def answer_group(find, numbers):
    coin = coin_numbered(find, numbers[0])
    if coin is None:
        return [NO_SUCH_COIN]
    group = group_of(find.coins, coin)
    return [len(group)] + numbers_of(group)


def answer_chain(find, numbers):
    coin = coin_numbered(find, numbers[0])
    other = coin_numbered(find, numbers[1])
    if coin is None or other is None:
        return [NO_SUCH_COIN]
    chain = chain_between(find.coins, coin, other)
    if chain is None:
        return [NO_CHAIN]
    return [len(chain) - 1] + numbers_of(chain)


def answer_dies(find, numbers):
    faces = [coin.face for coin in find.coins]
    backs = [coin.back for coin in find.coins]
    return seen_dies(faces) + seen_dies(backs)


def answer_coins(find, numbers):
    said = [len(find.coins)]
    for coin in find.coins:
        said.extend(told(coin))
    return said


# By a call's number: how many numbers are handed to it.
SIZES = (0, 4, 4, 1, 2, 0, 1, 0, 1, 2, 0, 0)

# By a call's number: what answers it, once there is a find.
ANSWERS = (
    answer_begin, answer_coin, answer_may, answer_lose, answer_first, answer_orders,
    answer_places, answer_anvils, answer_group, answer_chain, answer_dies, answer_coins)


def answer_call(find, call, numbers):
    if find is None:
        return [NO_FIND]
    answer = ANSWERS[call]
    return answer(find, numbers)


def answers(calls):
    answered = []
    find = None
    at = 0
    while at < len(calls):
        call = calls[at]
        behind = at + 1 + SIZES[call]
        if call == BEGIN:
            find = Find()
        said = answer_call(find, call, calls[at + 1:behind])
        answered.append(len(said))
        answered.extend(said)
        at = behind
    return answered
