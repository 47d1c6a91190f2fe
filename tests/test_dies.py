import unittest

from tests.lines import APART, BEGIN, COINS, DIES, ask, coin, last, lose, steps

# Of how many face dies and back dies alike: each coin's own.
NONE_SHARED = {0: [0, 0, 0, 1], 1: [1, 1, 0, 1], 2: [2, 2, 0, 1], 8: [8, 8, 0, 1]}

# The face dies of coins, and what is told of them.
SHARED = (
    ((0, 0), [1, 0, 1, 1]),
    ((0, 0, 1), [2, 1, 2, 3]),
    ((0, 1, 0, 2), [3, 2, 1, 2]),
    ((0, 1, 0, 1), [2, 0, 1, 1]),
    ((7, 7, 7, 3), [2, 1, 3, 4]),
    ((0, 1, 2, 3, 0), [4, 3, 2, 5]),
    ((0, 1, 2, 3, 4, 4), [5, 4, 1, 3]),
    ((0, 1, 2, 2, 1, 4), [4, 2, 2, 3]),
    ((0, 1, 2, 2, 2, 4), [4, 3, 1, 2]),
    ((0, 1, 2, 3, 4, 5, 5), [6, 5, 2, 7]),
    ((0, 1, 2, 3, 4, 5, 6, 6), [7, 6, 1, 4]),
    ((0, 1, 2, 3, 4, 6, 6, 6), [6, 5, 3, 8]),
    ((0, 1, 2, 3, 5, 5, 6, 6), [6, 4, 1, 2]),
    ((0, 1, 2, 5, 5, 6, 6, 6), [5, 3, 5, 8]),
    ((0, 1, 5, 5, 5, 6, 6, 6), [4, 2, 3, 4]),
    ((0, 5, 5, 5, 6, 6, 6, 6), [3, 1, 7, 8]),
    ((0, 0, 1, 1, 2, 2, 3, 3), [4, 0, 1, 1]),
    ((4, 4, 4, 4, 4, 4, 4, 4), [1, 0, 1, 1]),
)


class Dies(unittest.TestCase):
    def test_without_coins(self):
        self.assertEqual(last(BEGIN, DIES), [0, 0, 0, 1, 0, 0, 0, 1])
        self.assertEqual(last(BEGIN, APART[0], lose(0), DIES), [0, 0, 0, 1, 0, 0, 0, 1])

    def test_no_die_is_another_ones_too(self):
        for many, due in NONE_SHARED.items():
            with self.subTest(many=many):
                self.assertEqual(last(BEGIN, *APART[:many], DIES), due * 2)

    def test_all_are(self):
        for many in range(2, 9):
            with self.subTest(many=many):
                self.assertEqual(last(BEGIN, *[coin(3, 1, 5, 1)] * many, DIES), [1, 0, 1, 1] * 2)

    def test_in_lowest_terms(self):
        for faces, due in SHARED:
            with self.subTest(faces=faces):
                calls = [coin(face, 0, place, 0) for place, face in enumerate(faces)]
                self.assertEqual(last(BEGIN, *calls, DIES), due + [len(faces), len(faces), 0, 1])
                turned = [coin(place, 0, face, 0) for place, face in enumerate(faces)]
                self.assertEqual(last(BEGIN, *turned, DIES), [len(faces), len(faces), 0, 1] + due)

    def test_faces_and_backs_apart(self):
        # Face die 0 and back die 0 are two dies.
        self.assertEqual(last(BEGIN, coin(0, 0, 1, 0), coin(1, 0, 0, 0), DIES), [2, 2, 0, 1] * 2)
        calls = [coin(0, 0, 0, 0), coin(0, 0, 0, 0), coin(1, 0, 0, 0), coin(2, 0, 1, 0)]
        self.assertEqual(last(BEGIN, *calls, DIES), [3, 2, 1, 2, 2, 1, 3, 4])
        self.assertEqual(last(BEGIN, *steps(8), DIES), [5, 2, 3, 4, 4, 0, 1, 1])

    def test_wears_make_no_difference(self):
        self.assertEqual(last(BEGIN, coin(0, 0, 0, 0), coin(0, 3, 0, 3), DIES), [1, 0, 1, 1] * 2)

    def test_a_lost_coin_has_no_die(self):
        said = ask(BEGIN, *[coin(0, 0, 0, 0)] * 2, coin(1, 0, 0, 0), DIES, lose(0), DIES, lose(1), DIES)
        self.assertEqual(said[4::2], [[2, 1, 2, 3, 1, 0, 1, 1], [2, 2, 0, 1, 1, 0, 1, 1], [1, 1, 0, 1, 1, 1, 0, 1]])

    def test_a_refused_coin_has_no_die(self):
        self.assertEqual(last(BEGIN, coin(0, 1, 0, 1), coin(0, 0, 0, 2), coin(8, 0, 0, 0), DIES), [1, 1, 0, 1] * 2)

    def test_changes_nothing(self):
        said = ask(BEGIN, *steps(2), DIES, DIES, COINS, coin(7, 0, 7, 0))
        self.assertEqual(said[3:], [[2, 2, 0, 1, 1, 0, 1, 1]] * 2 + [[2, 0, 0, 1, 0, 0, 1, 1, 0, 0, 1], [2]])


if __name__ == "__main__":
    unittest.main()
