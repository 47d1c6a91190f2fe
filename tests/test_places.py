import unittest

from tests.lines import APART, BEGIN, COINS, ORDERS, ask, coin, last, lose, places, steps


class Places(unittest.TestCase):
    def of_each(self, calls, numbers):
        return ask(BEGIN, *calls, *[places(k) for k in numbers])[1 + len(calls):]

    def test_one_coin_alone(self):
        self.assertEqual(last(BEGIN, coin(3, 2, 1, 0), places(0)), [0, 0])
        self.assertEqual(last(BEGIN, *APART[:2], lose(0), places(1)), [0, 0])

    def test_two_coins(self):
        by_face = [coin(0, 0, 0, 0), coin(0, 1, 1, 0)]
        by_back = [coin(0, 0, 0, 3), coin(1, 0, 0, 2)]
        self.assertEqual(self.of_each(by_face, range(2)), [[0, 0], [1, 1]])
        self.assertEqual(self.of_each(by_back, range(2)), [[1, 1], [0, 0]])
        self.assertEqual(self.of_each([coin(0, 1, 0, 1)] * 2, range(2)), [[0, 1], [0, 1]])

    def test_sure_by_way_of_others_alone(self):
        for many in range(1, 9):
            with self.subTest(many=many):
                due = [[k, k] for k in range(many)]
                self.assertEqual(self.of_each(steps(many), range(many)), due)
                self.assertEqual(self.of_each(steps(many)[::-1], range(many)), due[::-1])

    def test_anywhere(self):
        for many in range(1, 9):
            with self.subTest(many=many):
                self.assertEqual(self.of_each(APART[:many], range(many)), [[0, many - 1]] * many)
        self.assertEqual(self.of_each([coin(4, 2, 4, 2)] * 8, range(8)), [[0, 7]] * 8)

    def test_one_anywhere_among_others_that_are_sure(self):
        self.assertEqual(self.of_each([*steps(3), APART[7]], range(4)), [[0, 1], [1, 2], [2, 3], [0, 3]])

    def test_two_rows_side_by_side(self):
        # Coins 1, 0 by face die 0 and coins 3, 2 by face die 1.
        pairs = [coin(0, 1, 0, 0), coin(0, 0, 1, 0), coin(1, 1, 2, 0), coin(1, 0, 3, 0)]
        self.assertEqual(self.of_each(pairs, range(4)), [[1, 3], [0, 2], [1, 3], [0, 2]])

    def test_a_coin_that_others_reach_by_two_ways_counts_each_once(self):
        # 0 is earlier than 1 and 2, and each of these earlier than 3.
        calls = [coin(0, 0, 0, 0), coin(0, 1, 1, 0), coin(1, 0, 0, 1), coin(1, 1, 1, 1)]
        self.assertEqual(self.of_each(calls, range(4)), [[0, 0], [1, 2], [1, 2], [3, 3]])

    def test_eight_coins(self):
        # Seven behind the last one, by one face die; then four and four by wears of one back die.
        behind = [coin(0, 1, die, 0) for die in range(7)] + [coin(0, 0, 7, 0)]
        self.assertEqual(self.of_each(behind, range(8)), [[1, 7]] * 7 + [[0, 0]])
        halves = [coin(die, 0, 0, die % 2) for die in range(8)]
        self.assertEqual(self.of_each(halves, range(8)), [[0, 3], [4, 7]] * 4)

    def test_numbers_with_gaps(self):
        calls = [APART[7], *steps(4), lose(0), lose(2)]
        # Of 1, 3 and 4 only 3 is earlier than 4, as 2 is gone.
        self.assertEqual(self.of_each(calls, (1, 3, 4)), [[0, 2], [0, 1], [1, 2]])

    def test_high_numbers(self):
        calls = [BEGIN]
        for k in range(20):
            calls += [coin(0, 0, 0, 0), lose(k)]
        said = ask(*calls, *steps(2), places(20), places(21), places(0))
        self.assertEqual(said[-3:], [[0, 0], [1, 1], [-2]])

    def test_no_such_coin(self):
        self.assertEqual(last(BEGIN, places(0)), [-2])
        for k in (2, 3, 8, 99, 100):
            with self.subTest(k=k):
                self.assertEqual(last(BEGIN, *APART[:2], places(k)), [-2])
        said = ask(BEGIN, *APART[:3], lose(1), *[places(k) for k in range(4)])
        self.assertEqual(said[5:], [[0, 1], [-2], [0, 1], [-2]])

    def test_refused_coins_are_not_there(self):
        self.assertEqual(last(BEGIN, coin(0, 1, 0, 1), coin(0, 0, 0, 2), places(1)), [-2])

    def test_changes_nothing(self):
        said = ask(BEGIN, *steps(2), places(0), places(7), COINS, ORDERS, coin(7, 0, 7, 0))
        self.assertEqual(said[-3:], [[2, 0, 0, 1, 0, 0, 1, 1, 0, 0, 1], [1, 0, 1], [2]])


if __name__ == "__main__":
    unittest.main()
