"""A coin, when one coin is earlier than another one, and when two are linked."""

LAST_DIE = 7
LAST_WEAR = 3


class Coin:
    def __init__(self, number, face, face_wear, back, back_wear):
        self.number = number
        self.face = face
        self.face_wear = face_wear
        self.back = back
        self.back_wear = back_wear


def is_die(number):
    return 0 <= number <= LAST_DIE


def is_wear(number):
    return 0 <= number <= LAST_WEAR


# The numbers lie as a call hands them over: face die, its wear, back die, its wear.
def is_coin(numbers):
    return is_die(numbers[0]) and is_wear(numbers[1]) and is_die(numbers[2]) and is_wear(numbers[3])


def make_coin(number, numbers):
    return Coin(number, numbers[0], numbers[1], numbers[2], numbers[3])


def earlier_by_face(coin, other):
    return coin.face == other.face and coin.face_wear < other.face_wear


def earlier_by_back(coin, other):
    return coin.back == other.back and coin.back_wear < other.back_wear


def earlier(coin, other):
    return earlier_by_face(coin, other) or earlier_by_back(coin, other)


def linked(coin, other):
    return coin.face == other.face or coin.back == other.back


# As the coin was handed over, its number ahead.
def told(coin):
    return [coin.number, coin.face, coin.face_wear, coin.back, coin.back_wear]


def numbers_of(coins):
    return [coin.number for coin in coins]


def without(coins, coin):
    return [other for other in coins if other.number != coin.number]
