import unittest

from tests.lines import (
    ANVILS, APART, BEGIN, COINS, DIES, ORDERS, ask, chain, coin, first, group, joined, lose, may, places, steps)
from twodies.hoard import answers

MIXED = joined([
    ORDERS, BEGIN, *steps(3), coin(0, 0, 1, 1), may(0, 0, 1, 1), first(0, 2), first(2, 0), first(1, 1), ORDERS,
    lose(1), first(0, 1), coin(0, 0, 1, 1), coin(8, 0, 0, 0), may(0, 4, 0, 0), ORDERS, BEGIN, *APART,
    coin(0, 0, 0, 0), ORDERS])

MIXED_ANSWERS = (
    [1, -9, 1, 0, 1, 0, 1, 1, 1, 2, 5, -7, 3, 0, 1, 2, 1, 0, 1, 1, 1, 2, 1, -1, 4, 1, 0, 1, 2]
    + [1, 2, 1, -2, 1, 3, 1, -1, 1, -1, 4, 1, 2, 3, 0, 1, 0]
    + [1, 0, 1, 1, 1, 2, 1, 3, 1, 4, 1, 5, 1, 6, 1, 7]
    + [1, -5, 9, 40320, 0, 1, 2, 3, 4, 5, 6, 7])

# Each of the twelve calls with what it answers, on the coins of steps(3) and one apart, 60 in all.
TWELVE = [
    (COINS, [-9]), (DIES, [-9]), (chain(0, 0), [-9]), (group(0), [-9]), (ANVILS, [-9]), (places(0), [-9]),
    (BEGIN, [0]), (ORDERS, [1]), (ANVILS, [0]), (DIES, [0, 0, 0, 1, 0, 0, 0, 1]), (COINS, [0]),
    (places(0), [-2]), (group(0), [-2]), (chain(0, 0), [-2]), (first(0, 0), [-2]), (lose(0), [-2]),
    (coin(0, 1, 0, 0), [0]), (coin(1, 0, 0, 1), [1]), (coin(1, 1, 1, 0), [2]), (coin(7, 3, 7, 2), [3]),
    (coin(0, 0, 1, 1), [-7, 3, 0, 1, 2]), (coin(9, 0, 0, 0), [-1]), (may(0, 0, 1, 1), [0]), (may(7, 3, 7, 3), [1]),
    (may(0, 0, 0, 9), [-1]), (first(0, 2), [1]), (first(2, 1), [2]), (first(3, 0), [0]), (first(3, 3), [-1]),
    (ORDERS, [4, 0, 1, 2, 3]), (places(0), [0, 1]), (places(1), [1, 2]), (places(2), [2, 3]), (places(3), [0, 3]),
    (places(100), [-2]), (ANVILS, [1, 0, 1, 2, 3]), (group(2), [3, 0, 1, 2]), (group(3), [1, 3]), (group(4), [-2]),
    (chain(0, 2), [2, 0, 1, 2]), (chain(2, 1), [1, 2, 1]), (chain(3, 3), [0, 3]), (chain(0, 3), [-6]),
    (chain(4, 0), [-2]), (DIES, [3, 2, 1, 2, 3, 2, 1, 2]),
    (COINS, [4, 0, 0, 1, 0, 0, 1, 1, 0, 0, 1, 2, 1, 1, 1, 0, 3, 7, 3, 7, 2]),
    (lose(1), [3]), (ORDERS, [6, 0, 2, 3]), (places(2), [0, 2]), (places(1), [-2]), (group(2), [1, 2]),
    (chain(0, 2), [-6]), (coin(1, 0, 2, 0), [4]), (ANVILS, [1, 0, 3, 4, 2]), (DIES, [3, 2, 1, 2, 4, 4, 0, 1]),
    (COINS, [4, 0, 0, 1, 0, 0, 2, 1, 1, 1, 0, 3, 7, 3, 7, 2, 4, 1, 0, 2, 0]),
    (BEGIN, [0]), (COINS, [0]), (coin(5, 0, 5, 0), [0]), (COINS, [1, 0, 5, 0, 5, 0])]

TWELVE_LINE = joined([call for call, said in TWELVE])
TWELVE_ANSWERS = joined([[len(said)] + said for call, said in TWELVE])

# Calls that only ask, with and without an answer, on the coins of steps(3) and one apart.
QUESTIONS = [
    may(0, 0, 0, 0), may(0, 0, 1, 1), may(9, 0, 0, 0), first(0, 1), first(2, 0), first(0, 3), first(1, 1), first(0, 9),
    ORDERS, places(0), places(3), places(9), ANVILS, group(0), group(3), group(9), chain(0, 2), chain(2, 0),
    chain(1, 1), chain(0, 3), chain(9, 9), DIES, COINS]


class Interface(unittest.TestCase):
    def test_a_count_and_the_answer_of_each_call_in_order(self):
        self.assertEqual(answers(MIXED), MIXED_ANSWERS)

    def test_sixty_calls_with_all_twelve_among_them(self):
        self.assertEqual(len(TWELVE), 60)
        self.assertEqual({call[0] for call, said in TWELVE}, set(range(12)))
        self.assertEqual(answers(TWELVE_LINE), TWELVE_ANSWERS)

    def test_each_beginning_of_a_line_is_answered_alike(self):
        for many in range(1, 60):
            with self.subTest(many=many):
                line = joined([call for call, said in TWELVE[:many]])
                self.assertEqual(answers(line), joined([[len(said)] + said for call, said in TWELVE[:many]]))

    def test_lines_of_one_call(self):
        self.assertEqual(answers(BEGIN), [1, 0])
        self.assertEqual(answers(ORDERS), [1, -9])
        self.assertEqual(answers(coin(9, 9, 9, 9)), [1, -9])
        for call in (may(0, 0, 0, 0), lose(0), first(0, 1), places(0), ANVILS, group(0), chain(0, 0), DIES, COINS):
            with self.subTest(call=call):
                self.assertEqual(answers(call), [1, -9])

    def test_lines_of_sixty_calls(self):
        self.assertEqual(answers([0] * 60), [1, 0] * 60)
        self.assertEqual(answers([5] * 60), [1, -9] * 60)
        line = [0] + joined([coin(0, 0, 0, 0)] * 59)
        self.assertEqual(answers(line), [1, 0] + joined([[1, k] for k in range(8)]) + [1, -5] * 51)
        eight = joined([BEGIN, *APART])
        said = [1, 0] + joined([[1, k] for k in range(8)])
        self.assertEqual(answers(eight + [5] * 51), said + [9, 40320, 0, 1, 2, 3, 4, 5, 6, 7] * 51)

    def test_a_line_of_three_hundred_numbers(self):
        line = joined([coin(7, 3, 7, 3)] * 60)
        self.assertEqual(len(line), 300)
        self.assertEqual(answers(line), [1, -9] * 60)

    def test_the_longest_answers(self):
        eight = joined([BEGIN, *APART])
        said = [1, 0] + joined([[1, k] for k in range(8)])
        coins = [41, 8] + joined([[k] + call[1:] for k, call in enumerate(APART)])
        self.assertEqual(answers(eight + COINS * 51), said + coins * 51)
        self.assertEqual(answers(eight + ANVILS * 51), said + [9, 1, 0, 1, 2, 3, 4, 5, 6, 7] * 51)

    def test_no_call_but_begin_coin_and_lose_changes_anything(self):
        before = [BEGIN, *steps(3), APART[7]]
        behind = [ORDERS, COINS, DIES, ANVILS, lose(1), coin(7, 0, 7, 0), coin(8, 0, 0, 0), COINS, ORDERS]
        due = ask(*before, *behind)
        for call in QUESTIONS:
            with self.subTest(call=call):
                said = ask(*before, call, call, *behind)
                self.assertEqual(said[:5] + said[7:], due)
                self.assertEqual(said[5], said[6])
        said = ask(*before, *QUESTIONS, *behind)
        self.assertEqual(said[:5] + said[-len(behind):], due)

    def test_questions_answer_the_same_in_any_order(self):
        before = [BEGIN, *steps(3), APART[7]]
        ahead = ask(*before, *QUESTIONS)[5:]
        self.assertEqual(ask(*before, *QUESTIONS[::-1])[5:], ahead[::-1])

    def test_refusals_change_nothing(self):
        before = [BEGIN, *steps(3), APART[7]]
        for call in (coin(0, 0, 1, 1), coin(0, 4, 0, 0), lose(4), lose(100)):
            with self.subTest(call=call):
                said = ask(*before, call, *QUESTIONS, coin(7, 3, 6, 0))
                self.assertTrue(said[5][0] < 0)
                self.assertEqual(said[6:], ask(*before, *QUESTIONS, coin(7, 3, 6, 0))[5:])

    def test_what_is_handed_in_stays_as_it_was(self):
        for whole in (MIXED, TWELVE_LINE):
            line = list(whole)
            answers(line)
            self.assertEqual(line, whole)

    def test_nothing_is_changed_for_a_while_either(self):
        class Fixed(list):
            def refuse(self, *args):
                raise AssertionError("the list was changed")

            __setitem__ = __delitem__ = __iadd__ = __imul__ = refuse
            append = extend = insert = pop = remove = clear = sort = reverse = refuse

        self.assertEqual(answers(Fixed(MIXED)), MIXED_ANSWERS)
        self.assertEqual(answers(Fixed(TWELVE_LINE)), TWELVE_ANSWERS)

    def test_asked_twice_as_if_for_the_first_time(self):
        for whole in (MIXED, TWELVE_LINE):
            line = list(whole)
            once = answers(line)
            again = answers(line)
            self.assertEqual(once, again)
            self.assertIsNot(once, again)
            once.append(5)
            self.assertEqual(answers(line), again)

    def test_no_find_is_kept_from_one_time_to_the_next(self):
        answers(joined([BEGIN, *APART]))
        for call in (ORDERS, ANVILS, DIES, COINS, places(0), group(0), chain(0, 0)):
            self.assertEqual(answers(call), [1, -9])
        self.assertEqual(answers(joined([BEGIN, ORDERS, coin(0, 0, 0, 0)])), [1, 0, 1, 1, 1, 0])
        self.assertEqual(answers(joined([BEGIN, COINS, ANVILS])), [1, 0, 1, 0, 1, 0])

    def test_a_list_of_int_alone(self):
        for line in (MIXED, TWELVE_LINE, joined([BEGIN, *steps(8), *[[call] for call in (5, 7, 10, 11)]])):
            said = answers(line)
            self.assertIs(type(said), list)
            self.assertEqual({type(number) for number in said}, {int})

    def test_nothing_is_printed(self):
        import contextlib
        import io
        out = io.StringIO()
        with contextlib.redirect_stdout(out), contextlib.redirect_stderr(out):
            answers(MIXED)
            answers(TWELVE_LINE)
        self.assertEqual(out.getvalue(), "")


if __name__ == "__main__":
    unittest.main()
