import unittest

from tests.lines import APART, BEGIN, COINS, ask, chain, coin, last, lose, steps


class Chain(unittest.TestCase):
    def test_from_a_coin_to_itself(self):
        self.assertEqual(last(BEGIN, coin(3, 2, 1, 0), chain(0, 0)), [0, 0])
        self.assertEqual(ask(BEGIN, *APART, *[chain(k, k) for k in range(8)])[9:], [[0, k] for k in range(8)])
        self.assertEqual(last(BEGIN, *[coin(0, 0, 0, 0)] * 3, chain(1, 1)), [0, 1])

    def test_by_a_face_die(self):
        calls = [BEGIN, coin(5, 0, 0, 0), coin(5, 3, 1, 0)]
        self.assertEqual(ask(*calls, chain(0, 1), chain(1, 0))[3:], [[1, 0, 1], [1, 1, 0]])

    def test_by_a_back_die(self):
        calls = [BEGIN, coin(0, 0, 5, 0), coin(1, 0, 5, 3)]
        self.assertEqual(ask(*calls, chain(0, 1), chain(1, 0))[3:], [[1, 0, 1], [1, 1, 0]])

    def test_by_both(self):
        self.assertEqual(last(BEGIN, coin(0, 0, 0, 0), coin(0, 0, 0, 0), chain(1, 0)), [1, 1, 0])

    def test_by_face_and_back_dies_in_turn(self):
        calls = [BEGIN, *steps(8)]
        for i in range(8):
            for j in range(8):
                with self.subTest(i=i, j=j):
                    row = list(range(i, j + 1)) if i <= j else list(range(i, j - 1, -1))
                    self.assertEqual(last(*calls, chain(i, j)), [len(row) - 1] + row)

    def test_the_fewest(self):
        # 0 to 4 are a chain, and 5 has the back die of 0 and the face die of 4.
        calls = [BEGIN, *steps(5), coin(2, 0, 0, 0)]
        self.assertEqual(last(*calls, chain(0, 4)), [2, 0, 5, 4])
        self.assertEqual(last(*calls, chain(4, 0)), [2, 4, 5, 0])
        self.assertEqual(last(*calls, lose(5), chain(0, 4)), [4, 0, 1, 2, 3, 4])

    def test_of_one_die_one_link_is_enough(self):
        self.assertEqual(last(BEGIN, *[coin(0, 0, 0, 0)] * 8, chain(2, 6)), [1, 2, 6])

    def test_of_as_few_the_first(self):
        # 2, 3 and 4 lie each between 0 and 1.
        between = coin(0, 0, 1, 0)
        calls = [BEGIN, coin(0, 0, 0, 0), coin(1, 0, 1, 0), between, between, coin(1, 0, 0, 0)]
        self.assertEqual(ask(*calls, chain(0, 1), chain(1, 0))[6:], [[2, 0, 2, 1], [2, 1, 2, 0]])
        self.assertEqual(last(*calls, lose(2), chain(0, 1)), [2, 0, 3, 1])
        self.assertEqual(last(*calls, lose(2), lose(3), chain(0, 1)), [2, 0, 4, 1])

    def test_the_first_number_counts_ahead_of_the_second(self):
        # From 6 by 0 and 5, or by 1 and 2, to 7: the one by 0 is the first, though 5 is above 2.
        calls = [
            BEGIN, coin(0, 0, 1, 0), coin(2, 0, 0, 0), coin(2, 0, 3, 0), coin(6, 0, 6, 0),
            coin(7, 0, 7, 0), coin(5, 0, 1, 0), coin(0, 0, 0, 0), coin(5, 0, 3, 0)]
        self.assertEqual(last(*calls, chain(6, 7)), [3, 6, 0, 5, 7])
        self.assertEqual(last(*calls, lose(5), chain(6, 7)), [3, 6, 1, 2, 7])
        # The other way it's 2 that comes first.
        self.assertEqual(last(*calls, chain(7, 6)), [3, 7, 2, 1, 6])

    def test_the_lowest_may_lead_nowhere(self):
        # 0 is linked with 1, too, but leads no further.
        calls = [BEGIN, coin(0, 0, 7, 0), coin(0, 0, 0, 0), coin(1, 0, 1, 0), coin(0, 0, 1, 0)]
        self.assertEqual(last(*calls, chain(1, 2)), [2, 1, 3, 2])

    def test_by_coins_that_are_higher_and_lower(self):
        calls = [BEGIN, *[steps(5)[place] for place in (2, 4, 0, 3, 1)]]
        self.assertEqual(ask(*calls, chain(2, 1), chain(1, 2))[6:], [[4, 2, 4, 0, 3, 1], [4, 1, 3, 0, 4, 2]])

    def test_numbers_with_gaps(self):
        calls = [BEGIN, APART[7], *steps(3), lose(0), lose(2), steps(2)[1]]
        self.assertEqual(ask(*calls, chain(1, 3), chain(3, 1), chain(4, 4))[-3:], [[2, 1, 4, 3], [2, 3, 4, 1], [0, 4]])


class NoChain(unittest.TestCase):
    def test_no_die_in_common(self):
        self.assertEqual(ask(BEGIN, *APART[:2], chain(0, 1), chain(1, 0))[3:], [[-6], [-6]])

    def test_two_groups(self):
        calls = [BEGIN, *steps(3), coin(6, 0, 6, 0), coin(7, 0, 6, 0)]
        self.assertEqual(ask(*calls, chain(0, 4), chain(3, 2), chain(0, 2))[6:], [[-6], [-6], [2, 0, 1, 2]])

    def test_a_face_die_is_no_back_die(self):
        self.assertEqual(last(BEGIN, coin(0, 0, 1, 0), coin(1, 0, 0, 0), chain(0, 1)), [-6])

    def test_a_lost_coin_is_no_way(self):
        self.assertEqual(ask(BEGIN, *steps(3), chain(0, 2), lose(1), chain(0, 2))[4:], [[2, 0, 1, 2], [2], [-6]])


class NoSuchCoin(unittest.TestCase):
    def test_never_given(self):
        self.assertEqual(last(BEGIN, chain(0, 1)), [-2])
        for i, j in ((0, 2), (2, 0), (2, 3), (0, 100), (100, 0), (99, 100)):
            with self.subTest(i=i, j=j):
                self.assertEqual(last(BEGIN, *steps(2), chain(i, j)), [-2])

    def test_gone(self):
        self.assertEqual(ask(BEGIN, *steps(2), lose(0), chain(0, 1), chain(1, 0))[4:], [[-2], [-2]])

    def test_one_number_that_is_not_there(self):
        self.assertEqual(last(BEGIN, chain(0, 0)), [-2])
        self.assertEqual(last(BEGIN, *steps(2), chain(2, 2)), [-2])
        self.assertEqual(last(BEGIN, *steps(2), lose(1), chain(1, 1)), [-2])
        self.assertEqual(last(BEGIN, *steps(2), chain(100, 100)), [-2])

    def test_changes_nothing(self):
        calls = [chain(0, 1), chain(0, 2), chain(0, 9), chain(1, 1), COINS, coin(7, 0, 7, 1)]
        due = [[1, 0, 1], [-6], [-2], [0, 1], [3, 0, 0, 1, 0, 0, 1, 1, 0, 0, 1, 2, 7, 0, 7, 0], [3]]
        self.assertEqual(ask(BEGIN, *steps(2), APART[7], *calls)[4:], due)


if __name__ == "__main__":
    unittest.main()
