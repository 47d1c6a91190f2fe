import unittest

from tests.lines import (
    ANVILS, APART, BEGIN, COINS, DIES, ORDERS, ask, chain, coin, first, group, lose, may, places)

OTHERS = [
    coin(0, 0, 0, 0), coin(7, 3, 7, 3), coin(8, 0, 0, 0), coin(9, 9, 9, 9),
    may(0, 0, 0, 0), may(0, 4, 0, 0), may(9, 9, 9, 9),
    lose(0), lose(100), first(0, 1), first(0, 0), first(100, 100), ORDERS,
    places(0), places(100), ANVILS, group(0), group(100), chain(0, 0), chain(0, 1), chain(100, 100), DIES, COINS,
]


class NoFind(unittest.TestCase):
    def test_each_call_alone(self):
        for call in OTHERS:
            with self.subTest(call=call):
                self.assertEqual(ask(call), [[-9]])

    def test_all_one_after_another(self):
        self.assertEqual(ask(*OTHERS), [[-9]] * len(OTHERS))

    def test_again_and_again(self):
        for call in OTHERS:
            with self.subTest(call=call):
                self.assertEqual(ask(call, call, call), [[-9]] * 3)

    def test_nothing_changes(self):
        for call in OTHERS:
            with self.subTest(call=call):
                self.assertEqual(
                    ask(call, BEGIN, ORDERS, COINS, coin(1, 0, 2, 3), ORDERS, COINS),
                    [[-9], [0], [1], [0], [0], [1, 0], [1, 0, 1, 0, 2, 3]])

    def test_coins_before_begin_take_no_room(self):
        self.assertEqual(ask(*APART, BEGIN, *APART)[8:], [[0]] + [[k] for k in range(8)])

    def test_all_before_a_begin_change_nothing_behind_it(self):
        behind = [
            BEGIN, ANVILS, DIES, COINS, places(0), group(0), chain(0, 0), coin(0, 0, 0, 0), places(0), ANVILS, group(0),
            chain(0, 0), DIES, COINS]
        due = [
            [0], [0], [0, 0, 0, 1, 0, 0, 0, 1], [0], [-2], [-2], [-2], [0], [0, 0], [1, 0], [1, 0],
            [0, 0], [1, 1, 0, 1, 1, 1, 0, 1], [1, 0, 0, 0, 0, 0]]
        self.assertEqual(ask(*OTHERS, *behind), [[-9]] * len(OTHERS) + due)

    def test_none_once_there_is_a_find(self):
        calls = [coin(0, 0, 0, 0), may(0, 0, 0, 0), lose(5), first(0, 0), ORDERS, lose(0), ORDERS]
        self.assertEqual(ask(BEGIN, *calls), [[0], [0], [1], [-2], [-1], [1, 0], [0], [1]])


if __name__ == "__main__":
    unittest.main()
