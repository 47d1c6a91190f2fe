"""Lines of many kinds, beside a model that takes the document at its word by trying every row."""

import random
import unittest
from itertools import permutations

from tests.lines import BEGIN, ORDERS, ask, coin, first, lose, may, steps


def earlier(a, b):
    return (a[0] == b[0] and a[1] < b[1]) or (a[2] == b[2] and a[3] < b[3])


class Model:
    def __init__(self):
        self.coins = None
        self.given = 0

    def answer(self, call):
        if call[0] == 0:
            self.coins = {}
            self.given = 0
            return [0]
        if self.coins is None:
            return [-9]
        return (None, self.coin, self.may, self.lose, self.first, self.orders)[call[0]](*call[1:])

    def is_order(self, row, coins):
        places = range(len(row))
        return not any(earlier(coins[row[q]], coins[row[p]]) for q in places for p in range(q))

    def all_orders(self, coins):
        return [row for row in permutations(sorted(coins)) if self.is_order(row, coins)]

    def could_come(self, numbers):
        coins = {**self.coins, self.given: numbers}
        return any(self.is_order(row, coins) for row in permutations(coins))

    def closing_row(self, numbers):
        for many in range(1, len(self.coins) + 1):
            for row in permutations(sorted(self.coins), many):
                walk = [numbers] + [self.coins[k] for k in row] + [numbers]
                if all(earlier(a, b) for a, b in zip(walk, walk[1:])):
                    return list(row)
        return None

    def wrong(self, f, v, b, w):
        return f not in range(8) or b not in range(8) or v not in range(4) or w not in range(4)

    def coin(self, *numbers):
        if self.wrong(*numbers):
            return [-1]
        if len(self.coins) == 8:
            return [-5]
        if not self.could_come(numbers):
            row = self.closing_row(numbers)
            return [-7, len(row)] + row
        self.coins[self.given] = numbers
        self.given += 1
        return [self.given - 1]

    def may(self, *numbers):
        if self.wrong(*numbers):
            return [-1]
        return [int(self.could_come(numbers))]

    def lose(self, k):
        if k not in self.coins:
            return [-2]
        del self.coins[k]
        return [len(self.coins)]

    def first(self, i, j):
        if i not in self.coins or j not in self.coins:
            return [-2]
        if i == j:
            return [-1]
        before = [row.index(i) < row.index(j) for row in self.all_orders(self.coins)]
        return [1 if all(before) else 0 if any(before) else 2]

    def orders(self):
        rows = self.all_orders(self.coins)
        return [len(rows)] + list(rows[0])


class Line:
    """A line that is drawn call by call, with few dies, so that coins often meet."""

    def __init__(self, seed, room, dies, wears):
        self.draw = random.Random(seed)
        self.room = room
        self.dies = dies
        self.wears = wears
        self.model = Model()

    def numbers(self):
        if self.draw.randrange(15) == 0:
            return [self.draw.randrange(10) for sort in range(4)]
        top = (self.dies, self.wears, self.dies, self.wears)
        return [self.draw.randrange(many) for many in top]

    def number(self):
        return self.draw.choice([100, *range(self.model.given + 1)])

    def next_call(self):
        kind = self.draw.randrange(12)
        if kind < 6 and len(self.model.coins or ()) < self.room:
            return coin(*self.numbers())
        if kind < 8:
            return may(*self.numbers())
        if kind < 9:
            return lose(self.number())
        if kind < 11:
            return first(self.number(), self.number())
        return BEGIN if self.draw.randrange(8) == 0 else ORDERS

    def run(self, many):
        calls, due = [], []
        for k in range(many):
            call = BEGIN if k == 1 else self.next_call()
            calls.append(call)
            due.append(self.model.answer(call))
        return calls, due


class AgainstModel(unittest.TestCase):
    def check(self, seeds, room, dies, wears, many):
        rows = set()
        for seed in seeds:
            calls, due = Line(seed, room, dies, wears).run(many)
            rows |= {said[1] for said in due if said[0] == -7}
            with self.subTest(seed=seed):
                self.assertEqual(ask(*calls), due)
        return rows

    def test_two_dies(self):
        self.check(range(150), 4, 2, 4, 40)

    def test_three_dies(self):
        rows = self.check(range(300), 5, 3, 3, 40)
        self.assertTrue({1, 3} <= rows)

    def test_four_dies(self):
        self.check(range(12), 6, 4, 3, 30)


class ClosingRows(unittest.TestCase):
    """Coins that close a longer row, laid among others that may close it too or shorten it."""

    def draw_find(self, draw):
        extra = [coin(draw.randrange(3), draw.randrange(3), draw.randrange(3), draw.randrange(3)) for k in range(4)]
        coins = steps(draw.choice((3, 5))) + extra
        draw.shuffle(coins)
        said = ask(BEGIN, *coins)[1:]
        return {answer[0]: call[1:] for answer, call in zip(said, coins) if answer[0] >= 0}, coins

    def test_the_fewest_and_of_as_few_the_first(self):
        draw = random.Random(7)
        seen = {}
        for turn in range(400):
            model = Model()
            model.coins, coins = self.draw_find(draw)
            if len(model.coins) == 8:
                continue
            closing = [0, 0, draw.choice((1, 2)), 1]
            due = model.closing_row(closing)
            model.given = len(model.coins)
            said = ask(BEGIN, *coins, coin(*closing))[-1]
            with self.subTest(turn=turn):
                self.assertEqual(said, [model.given] if due is None else [-7, len(due)] + due)
            seen[len(due or ())] = seen.get(len(due or ()), 0) + 1
        self.assertTrue(all(seen.get(many, 0) >= 20 for many in (0, 1, 3)), seen)
        self.assertTrue(seen.get(5, 0) >= 3, seen)


if __name__ == "__main__":
    unittest.main()
