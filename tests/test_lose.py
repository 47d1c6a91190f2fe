import unittest

from tests.lines import APART, BEGIN, ORDERS, ask, coin, first, last, lose, steps


class Lose(unittest.TestCase):
    def test_how_many_there_are_then(self):
        self.assertEqual(ask(BEGIN, *APART, *[lose(k) for k in range(8)])[9:], [[k] for k in range(7, -1, -1)])
        self.assertEqual(ask(BEGIN, *APART[:3], lose(1), lose(2), lose(0))[4:], [[2], [1], [0]])

    def test_that_coin_is_gone_and_no_other(self):
        for k in range(3):
            with self.subTest(k=k):
                left = [other for other in range(3) if other != k]
                self.assertEqual(last(BEGIN, *APART[:3], lose(k), ORDERS), [2] + left)

    def test_never_given(self):
        self.assertEqual(last(BEGIN, lose(0)), [-2])
        for k in (2, 3, 8, 99, 100):
            with self.subTest(k=k):
                self.assertEqual(ask(BEGIN, *APART[:2], lose(k), ORDERS)[-2:], [[-2], [2, 0, 1]])

    def test_gone(self):
        self.assertEqual(ask(BEGIN, *APART[:2], lose(0), lose(0), ORDERS)[3:], [[1], [-2], [1, 1]])

    def test_refused_coins_are_not_there(self):
        self.assertEqual(last(BEGIN, coin(0, 1, 0, 1), coin(0, 0, 0, 2), lose(1)), [-2])
        self.assertEqual(last(BEGIN, *APART, coin(0, 0, 0, 0), lose(8)), [-2])

    def test_room_for_another_one(self):
        said = ask(BEGIN, *APART, coin(0, 1, 0, 1), lose(0), coin(0, 1, 0, 1), coin(0, 1, 0, 1))
        self.assertEqual(said[9:], [[-5], [7], [8], [-5]])

    def test_what_it_ruled_out_may_come_again(self):
        said = ask(BEGIN, coin(0, 1, 0, 1), coin(0, 0, 0, 2), lose(0), coin(0, 0, 0, 2), coin(0, 1, 0, 1))
        self.assertEqual(said[1:], [[0], [-7, 1, 0], [0], [1], [-7, 1, 1]])

    def test_what_was_sure_by_it_is_no_more(self):
        said = ask(BEGIN, *steps(3), first(0, 2), lose(1), first(0, 2), first(2, 0))
        self.assertEqual(said[4:], [[1], [2], [0], [0]])


if __name__ == "__main__":
    unittest.main()
