import unittest

from tests.lines import APART, BEGIN, ORDERS, ask, coin, first, last, lose, may


class Begin(unittest.TestCase):
    def test_answers_zero(self):
        self.assertEqual(ask(BEGIN), [[0]])

    def test_a_find_without_coins(self):
        self.assertEqual(ask(BEGIN, ORDERS), [[0], [1]])

    def test_again_answers_zero(self):
        self.assertEqual(ask(BEGIN, BEGIN, coin(0, 0, 0, 0), BEGIN), [[0], [0], [0], [0]])

    def test_instead_of_what_there_was(self):
        self.assertEqual(ask(BEGIN, *APART, BEGIN, ORDERS)[-2:], [[0], [1]])
        self.assertEqual(ask(BEGIN, coin(1, 1, 1, 1), BEGIN, lose(0), first(0, 0))[-2:], [[-2], [-2]])

    def test_what_was_ruled_out_may_come_in_a_new_find(self):
        before = [BEGIN, coin(0, 1, 0, 1), may(0, 0, 0, 2)]
        self.assertEqual(ask(*before, BEGIN, may(0, 0, 0, 2), coin(0, 0, 0, 2))[2:], [[0], [0], [1], [0]])

    def test_room_for_eight_again(self):
        self.assertEqual(ask(BEGIN, *APART, BEGIN, *APART)[-8:], [[k] for k in range(8)])

    def test_numbers_from_zero_on_again(self):
        self.assertEqual(
            ask(BEGIN, coin(0, 0, 0, 0), coin(1, 0, 1, 0), lose(0), BEGIN, coin(2, 0, 2, 0), coin(3, 0, 3, 0)),
            [[0], [0], [1], [1], [0], [0], [1]])
        self.assertEqual(last(BEGIN, coin(0, 0, 0, 0), BEGIN, coin(0, 0, 0, 0), ORDERS), [1, 0])


if __name__ == "__main__":
    unittest.main()
