import math
import unittest

from tests.lines import APART, BEGIN, ORDERS, ask, coin, last, lose, steps


class Orders(unittest.TestCase):
    def test_no_coins(self):
        self.assertEqual(last(BEGIN, ORDERS), [1])
        self.assertEqual(last(BEGIN, APART[0], lose(0), ORDERS), [1])

    def test_one_coin(self):
        self.assertEqual(last(BEGIN, coin(3, 2, 1, 0), ORDERS), [1, 0])
        self.assertEqual(last(BEGIN, APART[0], APART[1], lose(0), ORDERS), [1, 1])

    def test_no_die_in_common(self):
        for many in range(9):
            with self.subTest(many=many):
                self.assertEqual(last(BEGIN, *APART[:many], ORDERS), [math.factorial(many)] + list(range(many)))

    def test_eight_like_coins(self):
        self.assertEqual(last(BEGIN, *[coin(4, 2, 4, 2)] * 8, ORDERS), [40320] + list(range(8)))

    def test_one_order_alone(self):
        for many in range(9):
            with self.subTest(many=many):
                row = list(range(many))
                self.assertEqual(last(BEGIN, *steps(many), ORDERS), [1] + row)
                self.assertEqual(last(BEGIN, *reversed(steps(many)), ORDERS), [1] + row[::-1])

    def test_one_order_by_one_die(self):
        by_face = [coin(0, wear, wear, 0) for wear in (2, 0, 3, 1)]
        by_back = [coin(wear, 0, 0, wear) for wear in (2, 0, 3, 1)]
        self.assertEqual(last(BEGIN, *by_face, ORDERS), [1, 1, 3, 0, 2])
        self.assertEqual(last(BEGIN, *by_back, ORDERS), [1, 1, 3, 0, 2])

    def test_like_wears_of_one_die(self):
        self.assertEqual(last(BEGIN, *[coin(0, wear, wear, wear) for wear in (1, 1, 0, 0)], ORDERS), [4, 2, 3, 0, 1])

    def test_two_rows_side_by_side(self):
        # Coins 1, 0 by face die 0 and coins 3, 2 by face die 1.
        pairs = [coin(0, 1, 0, 0), coin(0, 0, 1, 0), coin(1, 1, 2, 0), coin(1, 0, 3, 0)]
        self.assertEqual(last(BEGIN, *pairs, ORDERS), [6, 1, 0, 3, 2])

    def test_the_first_goes_on_with_what_has_become_free(self):
        # 2 comes before 0; 1 is free: 1 first, then 2, then 0.
        self.assertEqual(last(BEGIN, coin(0, 1, 0, 0), coin(1, 0, 1, 0), coin(0, 0, 2, 0), ORDERS), [3, 1, 2, 0])
        # 1 comes before 0; 2 is free: 0 is taken ahead of 2 as soon as it can be.
        self.assertEqual(last(BEGIN, coin(0, 1, 0, 0), coin(0, 0, 1, 0), coin(1, 0, 2, 0), ORDERS), [3, 1, 0, 2])

    def test_one_before_all_others(self):
        calls = [coin(0, 1, die, 0) for die in range(7)] + [coin(0, 0, 7, 0)]
        self.assertEqual(last(BEGIN, *calls, ORDERS), [5040, 7, 0, 1, 2, 3, 4, 5, 6])

    def test_numbers_with_gaps(self):
        said = ask(BEGIN, *APART[:4], lose(0), lose(2), ORDERS, coin(3, 1, 5, 0), coin(1, 0, 1, 1), ORDERS)
        self.assertEqual(said[-3:], [[4], [5], [6, 1, 3, 4, 5]])
        self.assertEqual(said[-4], [2, 1, 3])

    def test_high_numbers(self):
        calls = [BEGIN]
        for k in range(20):
            calls += [coin(0, 0, 0, 0), lose(k)]
        self.assertEqual(last(*calls, coin(0, 1, 0, 0), coin(0, 0, 1, 0), coin(1, 0, 2, 0), ORDERS), [3, 21, 20, 22])

    def test_changes_nothing(self):
        said = ask(BEGIN, *APART[:3], ORDERS, ORDERS, APART[3], ORDERS)
        self.assertEqual(said[4:], [[6, 0, 1, 2], [6, 0, 1, 2], [3], [24, 0, 1, 2, 3]])


if __name__ == "__main__":
    unittest.main()
