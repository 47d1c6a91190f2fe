import unittest

from tests.lines import APART, BEGIN, COINS, ask, coin, joined, last, lose, may, steps


class Coins(unittest.TestCase):
    def test_none(self):
        self.assertEqual(last(BEGIN, COINS), [0])
        self.assertEqual(last(BEGIN, APART[0], lose(0), COINS), [0])
        self.assertEqual(last(BEGIN, *APART, BEGIN, COINS), [0])

    def test_five_numbers_of_each(self):
        self.assertEqual(last(BEGIN, coin(7, 3, 5, 2), COINS), [1, 0, 7, 3, 5, 2])
        self.assertEqual(
            last(BEGIN, coin(1, 2, 3, 0), coin(4, 3, 6, 1), COINS), [2, 0, 1, 2, 3, 0, 1, 4, 3, 6, 1])

    def test_every_die_and_every_wear(self):
        for die in range(8):
            for wear in range(4):
                with self.subTest(die=die, wear=wear):
                    numbers = [die, wear, 7 - die, 3 - wear]
                    self.assertEqual(last(BEGIN, coin(*numbers), COINS), [1, 0] + numbers)

    def test_eight_coins(self):
        for eight in (APART, steps(8), steps(8)[::-1]):
            due = joined([[k] + call[1:] for k, call in enumerate(eight)])
            self.assertEqual(last(BEGIN, *eight, COINS), [8] + due)

    def test_numbers_with_gaps(self):
        said = ask(BEGIN, *APART[:4], lose(0), lose(2), COINS, coin(0, 1, 2, 3), COINS)
        self.assertEqual(said[-3], [2, 1, 1, 0, 1, 0, 3, 3, 0, 3, 0])
        self.assertEqual(said[-1], [3, 1, 1, 0, 1, 0, 3, 3, 0, 3, 0, 4, 0, 1, 2, 3])

    def test_refused_coins_are_not_there(self):
        calls = [coin(0, 1, 0, 1), coin(0, 0, 0, 2), coin(0, 4, 0, 0), may(3, 0, 3, 0), lose(5)]
        self.assertEqual(last(BEGIN, *calls, COINS), [1, 0, 0, 1, 0, 1])
        self.assertEqual(last(BEGIN, *APART, coin(0, 0, 0, 0), COINS), last(BEGIN, *APART, COINS))

    def test_changes_nothing(self):
        said = ask(BEGIN, coin(1, 2, 3, 0), COINS, COINS, coin(7, 0, 7, 0), COINS)
        self.assertEqual(said[2:], [[1, 0, 1, 2, 3, 0]] * 2 + [[1], [2, 0, 1, 2, 3, 0, 1, 7, 0, 7, 0]])


if __name__ == "__main__":
    unittest.main()
