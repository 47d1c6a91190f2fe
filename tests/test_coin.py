import unittest

from tests.lines import APART, BEGIN, ORDERS, ask, coin, last, lose, may, steps

WRONG = (
    [coin(die, 0, 0, 0) for die in (8, 9)] + [coin(0, 0, die, 0) for die in (8, 9)]
    + [coin(0, wear, 0, 0) for wear in range(4, 10)] + [coin(0, 0, 0, wear) for wear in range(4, 10)]
    + [coin(8, 4, 8, 4), coin(9, 9, 9, 9)])


class Numbers(unittest.TestCase):
    def test_from_zero_on_as_they_come(self):
        self.assertEqual(ask(BEGIN, *APART), [[0]] + [[k] for k in range(8)])

    def test_every_die_and_every_wear(self):
        for die in range(8):
            for wear in range(4):
                with self.subTest(die=die, wear=wear):
                    self.assertEqual(last(BEGIN, coin(die, wear, 7 - die, 3 - wear)), [0])
                    self.assertEqual(last(BEGIN, coin(7 - die, 3 - wear, die, wear)), [0])

    def test_none_used_again_after_a_lose(self):
        self.assertEqual(
            ask(BEGIN, APART[0], APART[1], lose(1), APART[1], lose(0), lose(2), APART[0]),
            [[0], [0], [1], [1], [2], [1], [0], [3]])

    def test_numbers_beyond_eight(self):
        calls = [BEGIN]
        for k in range(29):
            calls += [coin(0, 0, 0, 0), lose(k)]
        said = ask(*calls, coin(0, 0, 0, 0))
        self.assertEqual(said[1::2], [[k] for k in range(30)])
        self.assertEqual(said[2::2], [[0]] * 29)

    def test_like_coins(self):
        self.assertEqual(ask(BEGIN, *[coin(1, 2, 3, 1)] * 8)[1:], [[k] for k in range(8)])


class NotACoin(unittest.TestCase):
    def test_each_number(self):
        for call in WRONG:
            with self.subTest(call=call):
                self.assertEqual(ask(BEGIN, call), [[0], [-1]])

    def test_changes_nothing_and_takes_no_number(self):
        for call in WRONG:
            with self.subTest(call=call):
                self.assertEqual(
                    ask(BEGIN, APART[0], call, ORDERS, APART[1], ORDERS)[2:], [[-1], [1, 0], [1], [2, 0, 1]])

    def test_ahead_of_full(self):
        for call in WRONG:
            with self.subTest(call=call):
                self.assertEqual(last(BEGIN, *APART, call), [-1])

    def test_ahead_of_no_order(self):
        # Were 4 a wear, this coin would come before and behind coin 0.
        self.assertEqual(last(BEGIN, coin(0, 1, 0, 1), coin(0, 0, 0, 4)), [-1])
        self.assertEqual(last(BEGIN, coin(0, 1, 0, 1), coin(0, 4, 0, 0)), [-1])


class Full(unittest.TestCase):
    def test_eight_are_there(self):
        self.assertEqual(last(BEGIN, *APART, coin(0, 0, 0, 0)), [-5])
        self.assertEqual(last(BEGIN, *APART[:7], coin(0, 0, 0, 0)), [7])

    def test_changes_nothing_and_takes_no_number(self):
        eight = list(range(8))
        self.assertEqual(
            ask(BEGIN, *APART, coin(0, 1, 0, 1), ORDERS, lose(3), coin(0, 1, 0, 1), coin(0, 1, 0, 1))[9:],
            [[-5], [40320] + eight, [7], [8], [-5]])

    def test_ahead_of_no_order(self):
        eight = [coin(0, 1, 0, 1)] * 8
        self.assertEqual(last(BEGIN, *eight, coin(0, 0, 0, 2)), [-5])
        self.assertEqual(last(BEGIN, *eight[:7], coin(0, 0, 0, 2)), [-7, 1, 0])
        self.assertEqual(last(BEGIN, *eight, lose(0), coin(0, 0, 0, 2)), [-7, 1, 1])


class NoOrder(unittest.TestCase):
    def test_one_coin(self):
        self.assertEqual(last(BEGIN, coin(0, 1, 0, 1), coin(0, 0, 0, 2)), [-7, 1, 0])
        self.assertEqual(last(BEGIN, coin(0, 1, 0, 1), coin(0, 2, 0, 0)), [-7, 1, 0])
        self.assertEqual(last(BEGIN, coin(7, 2, 7, 0), coin(7, 0, 7, 3)), [-7, 1, 0])

    def test_two_coins_that_stand_each_for_each(self):
        # All pairs with one die of each kind, and with another face die or back die.
        for v in range(4):
            for w in range(4):
                for other_v in range(4):
                    for other_w in range(4):
                        against = (v - other_v) * (w - other_w) < 0
                        due = [-7, 1, 0] if against else [1]
                        pair = (v, w, other_v, other_w)
                        with self.subTest(pair=pair):
                            self.assertEqual(last(BEGIN, coin(3, v, 4, w), coin(3, other_v, 4, other_w)), due)
                            self.assertEqual(last(BEGIN, coin(3, v, 4, w), coin(2, other_v, 4, other_w)), [1])
                            self.assertEqual(last(BEGIN, coin(3, v, 4, w), coin(3, other_v, 5, other_w)), [1])

    def test_face_and_back_dies_are_numbered_on_their_own(self):
        self.assertEqual(last(BEGIN, coin(0, 1, 1, 1), coin(1, 0, 0, 2)), [1])

    def test_of_several_single_coins_the_lowest(self):
        like = coin(0, 1, 0, 1)
        self.assertEqual(last(BEGIN, like, like, like, coin(0, 0, 0, 2)), [-7, 1, 0])
        self.assertEqual(last(BEGIN, like, like, like, lose(0), coin(0, 0, 0, 2)), [-7, 1, 1])
        self.assertEqual(last(BEGIN, APART[5], like, APART[6], like, coin(0, 0, 0, 2)), [-7, 1, 1])

    def test_among_two_coins_only_one_is_needed(self):
        # The new coin would be earlier than 0, 0 earlier than 1, and both earlier than the new one.
        two = [coin(0, 1, 0, 0), coin(1, 0, 0, 1)]
        self.assertEqual(last(BEGIN, *two, coin(0, 0, 0, 2)), [-7, 1, 0])
        # Here it would be earlier than both, and 1 alone earlier than it.
        two = [coin(0, 0, 0, 1), coin(1, 1, 0, 2)]
        self.assertEqual(last(BEGIN, *two, coin(1, 2, 0, 0)), [-7, 1, 1])

    def test_three_five_and_seven_coins(self):
        # A fewest row goes by face and back dies in turn, so it never has an even number of coins.
        for many in (3, 5, 7):
            with self.subTest(many=many):
                closing = coin(0, 0, many // 2, 1)
                self.assertEqual(last(BEGIN, *steps(many), closing), [-7, many] + list(range(many)))
                self.assertEqual(last(BEGIN, *reversed(steps(many)), closing), [-7, many] + list(range(many))[::-1])

    def test_more_coins_but_not_closed(self):
        for many in (3, 5, 7):
            with self.subTest(many=many):
                self.assertEqual(last(BEGIN, *steps(many), coin(0, 2, many // 2, 1)), [many])
                self.assertEqual(last(BEGIN, *steps(many), coin(0, 1, many // 2, 1)), [many])
                self.assertEqual(last(BEGIN, *steps(many), coin(0, 0, many // 2, 0)), [many])

    def test_one_coin_rather_than_three(self):
        three = steps(3)
        # Coin 3 closes alone what coins 0, 1, 2 close together.
        self.assertEqual(last(BEGIN, *three, coin(0, 1, 1, 0), coin(0, 0, 1, 1)), [-7, 1, 3])

    def test_three_coins_rather_than_five(self):
        # 0 to 4 close it together; 0, 5, 4 do as well, by the wears of back die 0 and face die 2.
        calls = [BEGIN, *steps(5), coin(2, 0, 0, 1), coin(0, 0, 2, 1)]
        self.assertEqual(last(*calls), [-7, 3, 0, 5, 4])

    def test_of_as_many_the_first(self):
        # 0 leads to 1 and 3, and either leads to 2.
        calls = [BEGIN, *steps(3), coin(1, 0, 0, 1)]
        closing = coin(0, 0, 1, 1)
        self.assertEqual(last(*calls, closing), [-7, 3, 0, 1, 2])
        self.assertEqual(last(*calls, lose(1), closing), [-7, 3, 0, 3, 2])

    def test_the_first_number_counts_ahead_of_the_second(self):
        # 0 leads only to 4 and 1 only to 3, either to 2: the row from 0 is the first, though 4 is above 3.
        calls = [
            BEGIN, coin(0, 1, 0, 0), coin(0, 1, 3, 0), coin(1, 1, 2, 0), coin(1, 0, 3, 1), coin(1, 0, 0, 1)]
        closing = coin(0, 0, 2, 1)
        self.assertEqual(last(*calls, closing), [-7, 3, 0, 4, 2])
        self.assertEqual(last(*calls, lose(4), closing), [-7, 3, 1, 3, 2])
        self.assertEqual(last(*calls, lose(0), closing), [-7, 3, 1, 3, 2])

    def test_the_lowest_may_lead_nowhere(self):
        # The new coin would be earlier than 0 too, but 0 doesn't lead back to it.
        calls = [BEGIN, coin(0, 1, 7, 0), coin(0, 1, 0, 0), coin(1, 0, 0, 1), coin(1, 1, 1, 0)]
        self.assertEqual(last(*calls, coin(0, 0, 1, 1)), [-7, 3, 1, 2, 3])

    def test_the_last_of_the_row_rises_too(self):
        # 0 1 leads to 2 and 3 alike.
        calls = [BEGIN, *steps(3), coin(1, 1, 1, 0)]
        closing = coin(0, 0, 1, 1)
        self.assertEqual(last(*calls, closing), [-7, 3, 0, 1, 2])
        self.assertEqual(last(*calls, lose(2), closing), [-7, 3, 0, 1, 3])

    def test_numbers_with_gaps(self):
        calls = [BEGIN, APART[6], APART[7], lose(0), steps(3)[0], lose(1), steps(3)[1], steps(3)[2]]
        self.assertEqual(last(*calls, coin(0, 0, 1, 1)), [-7, 3, 2, 3, 4])

    def test_changes_nothing_and_takes_no_number(self):
        closing = coin(0, 0, 1, 1)
        said = ask(BEGIN, *steps(3), closing, closing, ORDERS, coin(7, 0, 7, 0), may(0, 0, 1, 1))
        self.assertEqual(said[4:], [[-7, 3, 0, 1, 2]] * 2 + [[1, 0, 1, 2], [3], [0]])

    def test_with_a_coin_lost_it_may_come(self):
        closing = coin(0, 0, 1, 1)
        self.assertEqual(ask(BEGIN, *steps(3), closing, lose(1), closing)[4:], [[-7, 3, 0, 1, 2], [2], [3]])


if __name__ == "__main__":
    unittest.main()
