import unittest

from tests.lines import ANVILS, APART, BEGIN, COINS, ORDERS, ask, coin, last, lose, steps


def free(faces):
    """Coins of these face dies of which none is earlier than another one."""
    return [coin(face, 0, place, 0) for place, face in enumerate(faces)]


def in_a_row(faces):
    """Four coins at most of these face dies, each earlier than the next one by back die 7."""
    return [coin(face, 0, 7, place) for place, face in enumerate(faces)]


class HowMany(unittest.TestCase):
    def test_no_coin(self):
        self.assertEqual(last(BEGIN, ANVILS), [0])
        self.assertEqual(last(BEGIN, *APART[:2], lose(0), lose(1), ANVILS), [0])

    def test_one_coin(self):
        self.assertEqual(last(BEGIN, coin(5, 3, 2, 1), ANVILS), [1, 0])
        self.assertEqual(last(BEGIN, *APART[:2], lose(0), ANVILS), [1, 1])

    def test_eight_coins_of_eight_face_dies(self):
        self.assertEqual(last(BEGIN, *APART, ANVILS), [1] + list(range(8)))
        self.assertEqual(last(BEGIN, *in_a_row((3, 1, 0, 2)), ANVILS), [1, 0, 1, 2, 3])

    def test_eight_coins_of_one_face_die(self):
        self.assertEqual(last(BEGIN, *[coin(6, 1, 6, 1)] * 8, ANVILS), [1] + list(range(8)))
        worn = [coin(6, (place + 1) % 2, place, 0) for place in range(8)]
        self.assertEqual(last(BEGIN, *worn, ANVILS), [1, 1, 3, 5, 7, 0, 2, 4, 6])

    def test_a_die_of_one_coin_amid_another_die(self):
        self.assertEqual(last(BEGIN, *in_a_row((0, 1, 0)), ANVILS), [2, 0, 1, 2])
        self.assertEqual(last(BEGIN, *in_a_row((0, 0, 1)), ANVILS), [1, 0, 1, 2])
        self.assertEqual(last(BEGIN, *in_a_row((1, 0, 0)), ANVILS), [1, 0, 1, 2])

    def test_dies_of_one_coin_one_after_another_need_no_more(self):
        self.assertEqual(last(BEGIN, *in_a_row((0, 1, 2, 0)), ANVILS), [2, 0, 1, 2, 3])

    def test_two_dies_among_one_another(self):
        self.assertEqual(last(BEGIN, *in_a_row((0, 1, 0, 1)), ANVILS), [2, 0, 1, 2, 3])
        self.assertEqual(last(BEGIN, *in_a_row((0, 1, 1, 0)), ANVILS), [2, 0, 1, 2, 3])
        self.assertEqual(last(BEGIN, *in_a_row((0, 0, 1, 1)), ANVILS), [1, 0, 1, 2, 3])

    def test_four_dies_at_once(self):
        # All coins of back die 7's lower wear come before all others, and each half has each face die.
        halves = [coin(place % 4, 0, 7, place // 4) for place in range(8)]
        self.assertEqual(last(BEGIN, *halves, ANVILS), [4] + list(range(8)))

    def test_three_dies_at_once(self):
        thirds = [coin(place % 3, 0, 7, place // 3) for place in range(6)]
        self.assertEqual(last(BEGIN, *thirds, ANVILS), [3] + list(range(6)))

    def test_by_way_of_both_kinds(self):
        # One order alone: face dies 0 1 1 2 2 3 3 4, each die's coins side by side.
        self.assertEqual(last(BEGIN, *steps(8), ANVILS), [1] + list(range(8)))
        self.assertEqual(last(BEGIN, *steps(8)[::-1], ANVILS), [1] + list(range(7, -1, -1)))

    def test_back_dies_need_none(self):
        # The back dies lie among one another, the face dies don't.
        calls = [coin(0, wear, wear % 2, 0) for wear in range(4)]
        self.assertEqual(last(BEGIN, *calls, ANVILS), [1, 0, 1, 2, 3])
        turned = [coin(wear % 2, 0, 0, wear) for wear in range(4)]
        self.assertEqual(last(BEGIN, *turned, ANVILS), [2, 0, 1, 2, 3])


class WhichOrder(unittest.TestCase):
    def test_the_first_of_all_where_it_needs_no_more(self):
        self.assertEqual(last(BEGIN, *free((1, 1, 0, 0)), ANVILS), [1, 0, 1, 2, 3])

    def test_the_first_of_all_needs_more(self):
        said = ask(BEGIN, *free((0, 1, 0)), ORDERS, ANVILS)
        self.assertEqual(said[-2:], [[6, 0, 1, 2], [1, 0, 2, 1]])
        self.assertEqual(last(BEGIN, *free((0, 1, 2, 3, 3, 2, 1, 0)), ANVILS), [1, 0, 7, 1, 6, 2, 5, 3, 4])

    def test_a_later_coin_may_be_the_one_to_begin_with(self):
        # 2 is earlier than 3: begun with 0, face die 0 would be in use while 2 is struck.
        calls = [coin(0, 0, 0, 0), coin(1, 0, 1, 0), coin(1, 0, 2, 0), coin(0, 0, 2, 1)]
        self.assertEqual(ask(BEGIN, *calls, ORDERS, ANVILS)[-2:], [[12, 0, 1, 2, 3], [1, 1, 2, 0, 3]])

    def test_more_than_one_is_needed_and_the_first_of_all_needs_more_still(self):
        # 0, 1, 5 come one after another; 2 behind 1 would make it three dies at once.
        calls = [
            coin(0, 0, 0, 0), coin(1, 0, 0, 1), coin(2, 0, 1, 0),
            coin(1, 0, 2, 0), coin(2, 0, 3, 0), coin(0, 0, 0, 2)]
        said = ask(BEGIN, *calls, ORDERS, ANVILS)
        self.assertEqual(said[-2:], [[120, 0, 1, 2, 3, 4, 5], [2, 0, 1, 3, 2, 4, 5]])

    def test_what_is_free_goes_wherever_there_is_an_anvil_for_it(self):
        # Two anvils are needed by 0, 1, 2 at any rate, so 3 and 4 may lie apart where it's the first.
        calls = in_a_row((0, 1, 0)) + [coin(2, 0, 0, 0), coin(2, 0, 1, 0)]
        self.assertEqual(last(BEGIN, *calls, ANVILS), [2, 0, 1, 2, 3, 4])
        calls = [coin(2, 0, 0, 0), *in_a_row((0, 1, 0)), coin(2, 0, 1, 0)]
        self.assertEqual(last(BEGIN, *calls, ANVILS), [2, 0, 1, 4, 2, 3])

    def test_numbers_with_gaps(self):
        calls = [BEGIN, *free((0, 1, 0, 1, 0)), lose(0), lose(3)]
        self.assertEqual(last(*calls, ANVILS), [1, 1, 2, 4])
        self.assertEqual(last(*calls, coin(1, 0, 7, 0), ANVILS), [1, 1, 5, 2, 4])

    def test_high_numbers(self):
        calls = [BEGIN]
        for k in range(20):
            calls += [coin(0, 0, 0, 0), lose(k)]
        self.assertEqual(last(*calls, *free((0, 1, 0)), ANVILS), [1, 20, 22, 21])

    def test_one_anvil_less_when_a_coin_is_lost(self):
        calls = [BEGIN, *in_a_row((0, 1, 0))]
        self.assertEqual(ask(*calls, ANVILS, lose(1), ANVILS)[-3:], [[2, 0, 1, 2], [2], [1, 0, 2]])

    def test_changes_nothing(self):
        said = ask(BEGIN, *free((0, 1, 0)), ANVILS, ANVILS, COINS, ORDERS, coin(7, 0, 7, 0))
        self.assertEqual(said[4:6], [[1, 0, 2, 1]] * 2)
        self.assertEqual(said[6:], [[3, 0, 0, 0, 0, 0, 1, 1, 0, 1, 0, 2, 0, 0, 2, 0], [6, 0, 1, 2], [3]])


if __name__ == "__main__":
    unittest.main()
