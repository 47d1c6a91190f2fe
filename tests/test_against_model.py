"""Lines of many kinds, beside a model that takes the document at its word by trying every row."""

import random
import unittest
from fractions import Fraction
from functools import lru_cache
from itertools import permutations

from tests.lines import (
    ANVILS, BEGIN, COINS, DIES, ORDERS, ask, chain, coin, first, group, lose, may, places, steps)


def earlier(a, b):
    return (a[0] == b[0] and a[1] < b[1]) or (a[2] == b[2] and a[3] < b[3])


def linked(a, b):
    return a[0] == b[0] or a[2] == b[2]


def is_order(row, coins):
    return not any(earlier(coins[row[q]], coins[row[p]]) for q in range(len(row)) for p in range(q))


# Several calls ask for the orders of the same coins.
@lru_cache(maxsize=4)
def orders_of(pairs):
    coins = dict(pairs)
    return [row for row in permutations(sorted(coins)) if is_order(row, coins)]


def anvils_of(row, coins):
    faces = [coins[k][0] for k in row]
    spans = [[place for place, other in enumerate(faces) if other == face] for face in sorted(set(faces))]
    return max((sum(span[0] <= place <= span[-1] for span in spans) for place in range(len(row))), default=0)


def told_of(dies):
    part = Fraction(sum(dies.count(die) > 1 for die in dies), len(dies) or 1)
    single = sum(dies.count(die) == 1 for die in set(dies))
    return [len(set(dies)), single, part.numerator, part.denominator]


class Model:
    def __init__(self):
        self.coins = None
        self.given = 0

    def answer(self, call):
        if call[0] == 0:
            self.coins = {}
            self.given = 0
            return [0]
        if self.coins is None:
            return [-9]
        by_number = (
            None, self.coin, self.may, self.lose, self.first, self.orders,
            self.places, self.anvils, self.group, self.chain, self.dies, self.all_coins)
        return by_number[call[0]](*call[1:])

    def all_orders(self):
        return orders_of(tuple(self.coins.items()))

    def could_come(self, numbers):
        coins = {**self.coins, self.given: numbers}
        return any(is_order(row, coins) for row in permutations(coins))

    def closing_row(self, numbers):
        for many in range(1, len(self.coins) + 1):
            for row in permutations(sorted(self.coins), many):
                walk = [numbers] + [self.coins[k] for k in row] + [numbers]
                if all(earlier(a, b) for a, b in zip(walk, walk[1:])):
                    return list(row)
        return None

    def wrong(self, f, v, b, w):
        return f not in range(8) or b not in range(8) or v not in range(4) or w not in range(4)

    def coin(self, *numbers):
        if self.wrong(*numbers):
            return [-1]
        if len(self.coins) == 8:
            return [-5]
        if not self.could_come(numbers):
            row = self.closing_row(numbers)
            return [-7, len(row)] + row
        self.coins[self.given] = numbers
        self.given += 1
        return [self.given - 1]

    def may(self, *numbers):
        if self.wrong(*numbers):
            return [-1]
        return [int(self.could_come(numbers))]

    def lose(self, k):
        if k not in self.coins:
            return [-2]
        del self.coins[k]
        return [len(self.coins)]

    def first(self, i, j):
        if i not in self.coins or j not in self.coins:
            return [-2]
        if i == j:
            return [-1]
        before = [row.index(i) < row.index(j) for row in self.all_orders()]
        return [1 if all(before) else 0 if any(before) else 2]

    def orders(self):
        rows = self.all_orders()
        return [len(rows)] + list(rows[0])

    def places(self, k):
        if k not in self.coins:
            return [-2]
        seen = [row.index(k) for row in self.all_orders()]
        return [min(seen), max(seen)]

    def anvils(self):
        needed = [(anvils_of(row, self.coins), row) for row in self.all_orders()]
        fewest, row = min(needed)
        return [fewest] + list(row)

    def group(self, k):
        if k not in self.coins:
            return [-2]
        held = {k}
        for turn in self.coins:
            held |= {j for j in self.coins for i in held if linked(self.coins[i], self.coins[j])}
        return [len(held)] + sorted(held)

    def chain(self, i, j):
        if i not in self.coins or j not in self.coins:
            return [-2]
        if i == j:
            return [0, i]
        others = sorted(k for k in self.coins if k not in (i, j))
        for many in range(len(others) + 1):
            for between in permutations(others, many):
                row = [i, *between, j]
                if all(linked(self.coins[a], self.coins[b]) for a, b in zip(row, row[1:])):
                    return [len(row) - 1] + row
        return [-6]

    def dies(self):
        held = list(self.coins.values())
        return told_of([numbers[0] for numbers in held]) + told_of([numbers[2] for numbers in held])

    def all_coins(self):
        return [len(self.coins)] + [number for k in self.coins for number in (k, *self.coins[k])]


class Line:
    """A line that is drawn call by call, with few dies, so that coins often meet."""

    def __init__(self, seed, room, dies, wears):
        self.draw = random.Random(seed)
        self.room = room
        self.dies = dies
        self.wears = wears
        self.model = Model()

    def numbers(self):
        if self.draw.randrange(15) == 0:
            return [self.draw.randrange(10) for sort in range(4)]
        top = (self.dies, self.wears, self.dies, self.wears)
        return [self.draw.randrange(many) for many in top]

    def number(self):
        return self.draw.choice([100, *range(self.model.given + 1)])

    def question(self):
        kind = self.draw.randrange(8)
        if kind < 4:
            return (ORDERS, ANVILS, DIES, COINS)[kind]
        if kind < 6:
            return (first, chain)[kind - 4](self.number(), self.number())
        return (places, group)[kind - 6](self.number())

    def next_call(self):
        kind = self.draw.randrange(60)
        if kind < 24 and len(self.model.coins or ()) < self.room:
            return coin(*self.numbers())
        if kind < 29:
            return may(*self.numbers())
        if kind < 33:
            return lose(self.number())
        return BEGIN if kind == 33 else self.question()

    def run(self, many):
        calls, due = [], []
        for k in range(many):
            call = BEGIN if k == 1 else self.next_call()
            calls.append(call)
            due.append(self.model.answer(call))
        return calls, due


class AgainstModel(unittest.TestCase):
    def check(self, seeds, room, dies, wears, many):
        """The calls and answers that were seen: a call's number beside its first number answered."""
        seen, rows = set(), set()
        for seed in seeds:
            calls, due = Line(seed, room, dies, wears).run(many)
            seen |= {(call[0], said[0]) for call, said in zip(calls, due)}
            rows |= {said[1] for said in due if said[0] == -7}
            with self.subTest(seed=seed):
                self.assertEqual(ask(*calls), due)
        return seen, rows

    def test_two_dies(self):
        self.check(range(200), 4, 2, 4, 60)

    def test_three_dies(self):
        seen, rows = self.check(range(300), 5, 3, 3, 60)
        self.assertTrue({1, 3} <= rows)
        self.assertTrue({call for call, answer in seen if answer >= 0} == set(range(12)))
        self.assertTrue({(1, -1), (1, -7), (2, -1), (3, -2), (4, -2), (4, -1), (6, -2), (8, -2)} <= seen)
        self.assertTrue({(9, -2), (9, -6), (9, 0), (9, 1), (9, 2), (9, 3), (7, 0), (7, 1), (7, 2)} <= seen)

    def test_four_dies(self):
        self.check(range(16), 6, 4, 3, 40)


class EightCoins(unittest.TestCase):
    """Each call that tells of eight coins, and of seven of them with a gap among their numbers."""

    def draw_find(self, draw, dies, wears):
        calls, coins = [BEGIN], {}
        while len(coins) < 8:
            numbers = tuple(draw.randrange(top) for top in (dies, wears, dies, wears))
            said = ask(*calls, coin(*numbers))[-1]
            if said[0] >= 0:
                calls.append(coin(*numbers))
                coins[said[0]] = numbers
        return calls, coins

    def questions(self, draw):
        pairs = [(draw.randrange(8), draw.randrange(8)) for turn in range(6)]
        return (
            [ORDERS, ANVILS, DIES, COINS] + [places(k) for k in range(8)]
            + [group(draw.randrange(8)), first(*pairs[0])] + [chain(*pair) for pair in pairs])

    def check(self, seed, dies, wears):
        draw = random.Random(seed)
        model = Model()
        calls, model.coins = self.draw_find(draw, dies, wears)
        model.given = len(model.coins)
        asked = self.questions(draw) + [lose(draw.randrange(8))] + self.questions(draw)
        due = [model.answer(call) for call in asked]
        with self.subTest(seed=seed, dies=dies, wears=wears):
            self.assertEqual(model.given, 8)
            self.assertEqual(ask(*calls, *asked)[len(calls):], due)
        return due[1][0]

    def test_few_and_many_dies(self):
        sorts = ((2, 2), (2, 4), (3, 2), (3, 4), (4, 3), (4, 4), (8, 4))
        anvils = {self.check(seed, dies, wears) for seed in range(3) for dies, wears in sorts}
        self.assertTrue({1, 2} <= anvils, anvils)

    def test_many_anvils(self):
        # Face dies that lie on either side of one another's coins, by the wears of two back dies.
        anvils, others = set(), 0
        for seed in range(16):
            draw = random.Random(seed)
            model = Model()
            numbers = [(draw.randrange(4), 0, draw.choice((0, 0, 1)), draw.randrange(4)) for turn in range(8)]
            model.coins = dict(enumerate(numbers))
            due = [model.answer(call) for call in (ORDERS, ANVILS)]
            with self.subTest(seed=seed):
                self.assertEqual(ask(BEGIN, *[coin(*four) for four in numbers], ORDERS, ANVILS)[9:], due)
            anvils.add(due[1][0])
            others += due[0][1:] != due[1][1:]
        self.assertTrue({1, 2, 3} <= anvils, anvils)
        self.assertTrue(others >= 5, others)


class ClosingRows(unittest.TestCase):
    """Coins that close a longer row, laid among others that may close it too or shorten it."""

    def draw_find(self, draw):
        extra = [coin(draw.randrange(3), draw.randrange(3), draw.randrange(3), draw.randrange(3)) for k in range(4)]
        coins = steps(draw.choice((3, 5))) + extra
        draw.shuffle(coins)
        said = ask(BEGIN, *coins)[1:]
        return {answer[0]: call[1:] for answer, call in zip(said, coins) if answer[0] >= 0}, coins

    def test_the_fewest_and_of_as_few_the_first(self):
        draw = random.Random(7)
        seen = {}
        for turn in range(400):
            model = Model()
            model.coins, coins = self.draw_find(draw)
            if len(model.coins) == 8:
                continue
            closing = [0, 0, draw.choice((1, 2)), 1]
            due = model.closing_row(closing)
            model.given = len(model.coins)
            said = ask(BEGIN, *coins, coin(*closing))[-1]
            with self.subTest(turn=turn):
                self.assertEqual(said, [model.given] if due is None else [-7, len(due)] + due)
            seen[len(due or ())] = seen.get(len(due or ()), 0) + 1
        self.assertTrue(all(seen.get(many, 0) >= 20 for many in (0, 1, 3)), seen)
        self.assertTrue(seen.get(5, 0) >= 3, seen)


if __name__ == "__main__":
    unittest.main()
