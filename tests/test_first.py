import unittest

from tests.lines import APART, BEGIN, ORDERS, ask, coin, first, last, lose, steps


class First(unittest.TestCase):
    def test_by_a_face_die(self):
        self.assertEqual(ask(BEGIN, coin(0, 1, 0, 0), coin(0, 2, 1, 0), first(0, 1), first(1, 0))[3:], [[1], [2]])
        self.assertEqual(ask(BEGIN, coin(0, 2, 0, 0), coin(0, 1, 1, 0), first(0, 1), first(1, 0))[3:], [[2], [1]])

    def test_by_a_back_die(self):
        self.assertEqual(ask(BEGIN, coin(0, 0, 5, 0), coin(1, 0, 5, 3), first(0, 1), first(1, 0))[3:], [[1], [2]])
        self.assertEqual(ask(BEGIN, coin(0, 0, 5, 3), coin(1, 0, 5, 0), first(0, 1), first(1, 0))[3:], [[2], [1]])

    def test_neither(self):
        for other in (coin(0, 1, 0, 1), coin(1, 0, 1, 0), coin(0, 1, 1, 3), coin(1, 3, 0, 1)):
            with self.subTest(other=other):
                self.assertEqual(ask(BEGIN, coin(0, 1, 0, 1), other, first(0, 1), first(1, 0))[3:], [[0], [0]])

    def test_by_way_of_others(self):
        calls = [BEGIN, *steps(8)]
        for i in range(8):
            for j in range(8):
                if i != j:
                    with self.subTest(i=i, j=j):
                        self.assertEqual(last(*calls, first(i, j)), [1 if i < j else 2])

    def test_by_way_of_higher_numbers(self):
        calls = [BEGIN, *reversed(steps(5))]
        self.assertEqual(ask(*calls, first(0, 4), first(4, 0))[6:], [[2], [1]])

    def test_a_common_earlier_coin_makes_nothing_sure(self):
        # 0 is earlier than 1 and than 2; 1 and 2 have no die in common.
        calls = [BEGIN, coin(0, 0, 0, 0), coin(0, 1, 1, 0), coin(1, 0, 0, 1)]
        self.assertEqual(ask(*calls, first(1, 2), first(2, 1), first(0, 2))[4:], [[0], [0], [1]])

    def test_no_such_coin(self):
        for i, j in ((0, 2), (2, 0), (2, 3), (0, 100), (100, 0), (99, 100)):
            with self.subTest(i=i, j=j):
                self.assertEqual(last(BEGIN, *APART[:2], first(i, j)), [-2])
        self.assertEqual(last(BEGIN, first(0, 1)), [-2])

    def test_gone(self):
        self.assertEqual(ask(BEGIN, *APART[:2], lose(0), first(0, 1), first(1, 0))[4:], [[-2], [-2]])

    def test_one_coin_twice(self):
        self.assertEqual(ask(BEGIN, *APART[:2], first(0, 0), first(1, 1))[3:], [[-1], [-1]])

    def test_no_such_coin_ahead_of_one_coin_twice(self):
        self.assertEqual(last(BEGIN, first(0, 0)), [-2])
        self.assertEqual(last(BEGIN, *APART[:2], first(2, 2)), [-2])
        self.assertEqual(last(BEGIN, *APART[:2], lose(1), first(1, 1)), [-2])
        self.assertEqual(last(BEGIN, first(100, 100)), [-2])

    def test_numbers_with_gaps(self):
        calls = [BEGIN, APART[7], APART[6], lose(0), *steps(3), lose(1)]
        self.assertEqual(ask(*calls, first(2, 4), first(4, 3), first(3, 0))[-3:], [[1], [2], [-2]])

    def test_changes_nothing(self):
        calls = [first(0, 2), first(2, 0), first(0, 0), first(0, 9), ORDERS, coin(7, 0, 7, 0)]
        self.assertEqual(ask(BEGIN, *steps(3), *calls)[-2:], [[1, 0, 1, 2], [3]])


if __name__ == "__main__":
    unittest.main()
