import unittest

from tests.lines import APART, BEGIN, ORDERS, coin, first, joined, lose, may, steps
from twodies.hoard import answers

MIXED = joined([
    ORDERS, BEGIN, *steps(3), coin(0, 0, 1, 1), may(0, 0, 1, 1), first(0, 2), first(2, 0), first(1, 1), ORDERS,
    lose(1), first(0, 1), coin(0, 0, 1, 1), coin(8, 0, 0, 0), may(0, 4, 0, 0), ORDERS, BEGIN, *APART,
    coin(0, 0, 0, 0), ORDERS])

MIXED_ANSWERS = (
    [1, -9, 1, 0, 1, 0, 1, 1, 1, 2, 5, -7, 3, 0, 1, 2, 1, 0, 1, 1, 1, 2, 1, -1, 4, 1, 0, 1, 2]
    + [1, 2, 1, -2, 1, 3, 1, -1, 1, -1, 4, 1, 2, 3, 0, 1, 0]
    + [1, 0, 1, 1, 1, 2, 1, 3, 1, 4, 1, 5, 1, 6, 1, 7]
    + [1, -5, 9, 40320, 0, 1, 2, 3, 4, 5, 6, 7])


class Interface(unittest.TestCase):
    def test_a_count_and_the_answer_of_each_call_in_order(self):
        self.assertEqual(answers(MIXED), MIXED_ANSWERS)

    def test_lines_of_one_call(self):
        self.assertEqual(answers(BEGIN), [1, 0])
        self.assertEqual(answers(ORDERS), [1, -9])
        self.assertEqual(answers(coin(9, 9, 9, 9)), [1, -9])

    def test_lines_of_sixty_calls(self):
        self.assertEqual(answers([0] * 60), [1, 0] * 60)
        self.assertEqual(answers([5] * 60), [1, -9] * 60)
        line = [0] + joined([coin(0, 0, 0, 0)] * 59)
        self.assertEqual(answers(line), [1, 0] + joined([[1, k] for k in range(8)]) + [1, -5] * 51)
        eight = joined([BEGIN, *APART])
        said = [1, 0] + joined([[1, k] for k in range(8)])
        self.assertEqual(answers(eight + [5] * 51), said + [9, 40320, 0, 1, 2, 3, 4, 5, 6, 7] * 51)

    def test_a_line_of_three_hundred_numbers(self):
        line = joined([coin(7, 3, 7, 3)] * 60)
        self.assertEqual(len(line), 300)
        self.assertEqual(answers(line), [1, -9] * 60)

    def test_what_is_handed_in_stays_as_it_was(self):
        line = list(MIXED)
        answers(line)
        self.assertEqual(line, MIXED)

    def test_nothing_is_changed_for_a_while_either(self):
        class Fixed(list):
            def refuse(self, *args):
                raise AssertionError("the list was changed")

            __setitem__ = __delitem__ = __iadd__ = __imul__ = refuse
            append = extend = insert = pop = remove = clear = sort = reverse = refuse

        self.assertEqual(answers(Fixed(MIXED)), MIXED_ANSWERS)

    def test_asked_twice_as_if_for_the_first_time(self):
        line = list(MIXED)
        once = answers(line)
        again = answers(line)
        self.assertEqual(once, again)
        self.assertIsNot(once, again)
        once.append(5)
        self.assertEqual(answers(line), again)

    def test_no_find_is_kept_from_one_time_to_the_next(self):
        answers(joined([BEGIN, *APART]))
        self.assertEqual(answers(ORDERS), [1, -9])
        self.assertEqual(answers(joined([BEGIN, ORDERS, coin(0, 0, 0, 0)])), [1, 0, 1, 1, 1, 0])

    def test_a_list_of_int_alone(self):
        said = answers(MIXED)
        self.assertIs(type(said), list)
        self.assertEqual({type(number) for number in said}, {int})

    def test_nothing_is_printed(self):
        import contextlib
        import io
        out = io.StringIO()
        with contextlib.redirect_stdout(out), contextlib.redirect_stderr(out):
            answers(MIXED)
        self.assertEqual(out.getvalue(), "")


if __name__ == "__main__":
    unittest.main()
