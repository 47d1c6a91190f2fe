import unittest

from tests.lines import APART, BEGIN, COINS, ask, coin, group, last, lose, steps


class Group(unittest.TestCase):
    def of_each(self, calls, numbers):
        return ask(BEGIN, *calls, *[group(k) for k in numbers])[1 + len(calls):]

    def test_a_coin_alone(self):
        self.assertEqual(last(BEGIN, coin(3, 2, 1, 0), group(0)), [1, 0])
        self.assertEqual(self.of_each(APART, range(8)), [[1, k] for k in range(8)])

    def test_by_face_dies(self):
        calls = [coin(0, 0, 0, 0), coin(1, 0, 1, 0), coin(0, 3, 2, 0), coin(1, 0, 3, 0), coin(0, 0, 4, 0)]
        self.assertEqual(self.of_each(calls, range(5)), [[3, 0, 2, 4], [2, 1, 3]] * 2 + [[3, 0, 2, 4]])

    def test_by_back_dies(self):
        calls = [coin(0, 0, 0, 0), coin(1, 0, 1, 0), coin(2, 0, 0, 3), coin(3, 0, 1, 0), coin(4, 0, 0, 0)]
        self.assertEqual(self.of_each(calls, range(5)), [[3, 0, 2, 4], [2, 1, 3]] * 2 + [[3, 0, 2, 4]])

    def test_by_both_in_turn(self):
        for many in range(1, 9):
            with self.subTest(many=many):
                due = [[many] + list(range(many))] * many
                self.assertEqual(self.of_each(steps(many), range(many)), due)
                self.assertEqual(self.of_each(steps(many)[::-1], range(many)), due)

    def test_by_way_of_others_alone(self):
        # 0 and 1 have no die in common; 2 has one of each.
        calls = [coin(0, 0, 0, 0), coin(1, 0, 1, 0), coin(0, 0, 1, 0)]
        self.assertEqual(self.of_each(calls[:2], range(2)), [[1, 0], [1, 1]])
        self.assertEqual(self.of_each(calls, range(3)), [[3, 0, 1, 2]] * 3)

    def test_rising_whatever_the_way(self):
        # 1 leads to 4 alone, 4 to 0, and 0 to 3; 2 stands alone.
        calls = [coin(5, 0, 5, 0), coin(6, 0, 6, 0), coin(7, 0, 7, 0), coin(4, 0, 5, 0), coin(5, 0, 6, 0)]
        self.assertEqual(self.of_each(calls, range(5)), [[4, 0, 1, 3, 4]] * 2 + [[1, 2]] + [[4, 0, 1, 3, 4]] * 2)

    def test_both_dies_in_common_counts_once(self):
        self.assertEqual(last(BEGIN, *[coin(4, 2, 4, 2)] * 8, group(5)), [8] + list(range(8)))

    def test_wears_make_no_difference(self):
        self.assertEqual(last(BEGIN, coin(0, 0, 0, 0), coin(0, 3, 0, 3), group(1)), [2, 0, 1])

    def test_a_face_die_is_no_back_die(self):
        self.assertEqual(self.of_each([coin(0, 0, 1, 0), coin(1, 0, 0, 0)], range(2)), [[1, 0], [1, 1]])

    def test_a_lost_coin_holds_nothing_together(self):
        said = ask(BEGIN, *steps(5), group(0), lose(2), group(0), group(1), group(3), group(4))
        self.assertEqual(said[6:], [[5, 0, 1, 2, 3, 4], [4], [2, 0, 1], [2, 0, 1], [2, 3, 4], [2, 3, 4]])

    def test_numbers_with_gaps(self):
        calls = [APART[7], *steps(2), lose(0), steps(3)[2], lose(2), steps(2)[1]]
        self.assertEqual(self.of_each(calls, (1, 3, 4)), [[3, 1, 3, 4]] * 3)

    def test_no_such_coin(self):
        self.assertEqual(last(BEGIN, group(0)), [-2])
        for k in (2, 3, 8, 99, 100):
            with self.subTest(k=k):
                self.assertEqual(last(BEGIN, *APART[:2], group(k)), [-2])
        self.assertEqual(ask(BEGIN, *steps(2), lose(0), group(0), group(1))[4:], [[-2], [1, 1]])

    def test_changes_nothing(self):
        said = ask(BEGIN, *steps(2), group(0), group(7), group(0), COINS, coin(7, 0, 7, 0))
        self.assertEqual(said[3:], [[2, 0, 1], [-2], [2, 0, 1], [2, 0, 0, 1, 0, 0, 1, 1, 0, 0, 1], [2]])


if __name__ == "__main__":
    unittest.main()
