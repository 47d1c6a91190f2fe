"""The calls on a find of coins, and what they answer."""

from twodies.coins import is_coin
from twodies.coins import make_coin
from twodies.coins import numbers_of
from twodies.coins import without
from twodies.orders import count_orders
from twodies.orders import first_order
from twodies.orders import row_to_itself
from twodies.orders import surely_before

MOST_COINS = 8

NOT_A_COIN = -1
ONE_COIN_TWICE = -1
NO_SUCH_COIN = -2
FULL = -5
NO_ORDER = -7
NO_FIND = -9

BEGIN = 0


class Find:
    def __init__(self):
        self.coins = []
        # How many numbers were given, as none is used again when its coin is lost.
        self.given = 0


# The coin of that number, or None.
def coin_numbered(find, number):
    for coin in find.coins:
        if coin.number == number:
            return coin
    return None


def answer_begin(find, numbers):
    return [0]


def answer_coin(find, numbers):
    if not is_coin(numbers):
        return [NOT_A_COIN]
    if len(find.coins) == MOST_COINS:
        return [FULL]
    coin = make_coin(find.given, numbers)
    row = row_to_itself(find.coins, coin)
    if row is not None:
        return [NO_ORDER, len(row)] + numbers_of(row)
    find.coins.append(coin)
    find.given = find.given + 1
    return [coin.number]


def answer_may(find, numbers):
    if not is_coin(numbers):
        return [NOT_A_COIN]
    coin = make_coin(find.given, numbers)
    return [1 if row_to_itself(find.coins, coin) is None else 0]


def answer_lose(find, numbers):
    coin = coin_numbered(find, numbers[0])
    if coin is None:
        return [NO_SUCH_COIN]
    find.coins = without(find.coins, coin)
    return [len(find.coins)]


def answer_first(find, numbers):
    coin = coin_numbered(find, numbers[0])
    other = coin_numbered(find, numbers[1])
    if coin is None or other is None:
        return [NO_SUCH_COIN]
    if coin.number == other.number:
        return [ONE_COIN_TWICE]
    if surely_before(find.coins, coin, other):
        return [1]
    if surely_before(find.coins, other, coin):
        return [2]
    return [0]


def answer_orders(find, numbers):
    return [count_orders(find.coins)] + numbers_of(first_order(find.coins))


# By a call's number: how many numbers are handed to it, of all twelve calls, since without
# a find each of them is passed over with a refusal.
SIZES = (0, 4, 4, 1, 2, 0, 1, 0, 1, 2, 0, 0)

# By a call's number: what answers it, once there is a find.
ANSWERS = (answer_begin, answer_coin, answer_may, answer_lose, answer_first, answer_orders)


def answer_call(find, call, numbers):
    if find is None:
        return [NO_FIND]
    if call >= len(ANSWERS):
        raise NotImplementedError("this call is not written yet")
    answer = ANSWERS[call]
    return answer(find, numbers)


def answers(calls):
    answered = []
    find = None
    at = 0
    while at < len(calls):
        call = calls[at]
        behind = at + 1 + SIZES[call]
        if call == BEGIN:
            find = Find()
        said = answer_call(find, call, calls[at + 1:behind])
        answered.append(len(said))
        answered.extend(said)
        at = behind
    return answered
