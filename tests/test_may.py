import unittest

from tests.lines import APART, BEGIN, ORDERS, ask, coin, first, last, lose, may, steps
from tests.test_coin import WRONG


def as_may(call):
    return may(*call[1:])


class May(unittest.TestCase):
    def test_without_coins(self):
        self.assertEqual(last(BEGIN, may(0, 0, 0, 0)), [1])
        self.assertEqual(last(BEGIN, may(7, 3, 7, 3)), [1])

    def test_one(self):
        self.assertEqual(last(BEGIN, coin(0, 1, 0, 1), may(0, 1, 0, 1)), [1])
        self.assertEqual(last(BEGIN, coin(0, 1, 0, 1), may(0, 0, 0, 1)), [1])
        self.assertEqual(last(BEGIN, coin(0, 1, 0, 1), may(0, 2, 0, 2)), [1])
        self.assertEqual(last(BEGIN, coin(0, 1, 0, 1), may(0, 0, 1, 2)), [1])

    def test_zero(self):
        self.assertEqual(last(BEGIN, coin(0, 1, 0, 1), may(0, 0, 0, 2)), [0])
        self.assertEqual(last(BEGIN, coin(0, 1, 0, 1), may(0, 2, 0, 0)), [0])
        for many in (3, 5, 7):
            with self.subTest(many=many):
                self.assertEqual(last(BEGIN, *steps(many), may(0, 0, many // 2, 1)), [0])
                self.assertEqual(last(BEGIN, *steps(many), may(0, 1, many // 2, 1)), [1])

    def test_with_eight_coins_there(self):
        eight = [coin(0, 1, 0, 1)] * 8
        self.assertEqual(ask(BEGIN, *eight, may(0, 0, 0, 2), may(0, 2, 0, 2))[-2:], [[0], [1]])
        self.assertEqual(last(BEGIN, *APART, may(3, 1, 4, 1)), [1])

    def test_not_a_coin(self):
        for call in WRONG:
            with self.subTest(call=call):
                self.assertEqual(last(BEGIN, as_may(call)), [-1])
                self.assertEqual(last(BEGIN, coin(0, 1, 0, 1), as_may(call)), [-1])
                self.assertEqual(last(BEGIN, *APART, as_may(call)), [-1])

    def test_changes_nothing(self):
        for call in (may(0, 0, 0, 0), may(1, 0, 1, 0), may(0, 2, 0, 0), may(9, 0, 0, 0)):
            with self.subTest(call=call):
                said = ask(BEGIN, coin(0, 1, 0, 1), call, ORDERS, first(0, 1), coin(1, 3, 1, 3), ORDERS, lose(0))
                self.assertEqual(said[3:], [[1, 0], [-2], [1], [2, 0, 1], [1]])

    def test_takes_no_room(self):
        self.assertEqual(last(BEGIN, *APART[:7], may(7, 0, 7, 0), may(7, 0, 7, 0), APART[7]), [7])

    def test_may_again_when_a_coin_is_gone(self):
        said = ask(BEGIN, *steps(3), may(0, 0, 1, 1), lose(1), may(0, 0, 1, 1))
        self.assertEqual(said[-3:], [[0], [2], [1]])


if __name__ == "__main__":
    unittest.main()
