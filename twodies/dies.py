"""How many dies of one kind the coins have, and how many coins have a die that isn't theirs alone.

The dies are handed over as a list with the die of each coin.
"""


def coins_of_dies(dies):
    many = {}
    for die in dies:
        many[die] = many.get(die, 0) + 1
    return many


def common_divisor(number, other):
    while other != 0:
        rest = number % other
        number = other
        other = rest
    return number


# Without coins there'd be nothing to divide by.
def lowest_terms(part, whole):
    if part == 0:
        return [0, 1]
    divisor = common_divisor(part, whole)
    return [part // divisor, whole // divisor]


def seen_dies(dies):
    many = coins_of_dies(dies)
    single = len([die for die in many if many[die] == 1])
    return [len(many), single] + lowest_terms(len(dies) - single, len(dies))
