"""Rows of coins in which each one leads to the next one.

What it is that leads is handed over as a function of two coins. Coins are handed over as a list
in which their numbers rise.
"""


# The coins that lie between start and goal: the fewest, and of as few the first; None if
# start doesn't lead to goal at all.
def row_between(coins, start, goal, leads):
    reached = {}
    rows = [[start]]
    while rows:
        for row in rows:
            if leads(row[-1], goal):
                return row[1:]
        rows = longer_rows(coins, rows, reached, leads)
    return None


# Rows of one length stay in their order, so the first that reaches a coin is the first of
# the shortest ones to it, and no later one is needed.
def longer_rows(coins, rows, reached, leads):
    longer = []
    for row in rows:
        for coin in coins:
            if coin.number not in reached and leads(row[-1], coin):
                reached[coin.number] = True
                longer.append(row + [coin])
    return longer
