"""sure: whether the last number is the same by all ways."""

import unittest
from itertools import combinations_with_replacement

import reckoning
from boards import BOARDS, GROWN
from calls import SHOWS, SURE, asked, board, last_asked, rule, wipe


class WorkedByHand(unittest.TestCase):
    def test_one_number(self):
        self.assertEqual(asked(SURE), [[1, 0]])
        for number in range(10):
            self.assertEqual(last_asked(board(number, [17]), SURE), [1, 17])

    def test_the_same_by_all_ways(self):
        self.assertEqual(last_asked(board(0, [1, 2, 3, 4, 5, 6]), SURE), [1, 21])
        self.assertEqual(last_asked(board(1, [3, 3, 3]), SURE), [1, 3])
        self.assertEqual(last_asked(board(1, [0, 0]), SURE), [1, 0])

    def test_they_differ(self):
        self.assertEqual(last_asked(board(1, [1, 2, 3]), SURE), [0, 0, 2])
        self.assertEqual(last_asked(board(8, [0, 0, 4]), SURE), [0, 1, 2])

    def test_the_least_and_the_greatest_of_several(self):
        # The ways of 1, 3, 9, 27 by differences leave 14, 16, 20 and 22.
        self.assertEqual(last_asked(board(1, [1, 3, 9, 27]), SURE), [0, 14, 22])

    def test_greater_than_any_that_is_handed_in(self):
        self.assertEqual(last_asked(board(2, [1000] * 6), SURE), [1, 1000 ** 6])
        told = asked(board(2, [1000] * 6), wipe(0, 1), wipe(0, 1), wipe(0, 1), wipe(0, 1), rule(1), SURE, rule(8), SURE)
        self.assertEqual(told[4], [10 ** 12, 10 ** 6, 10 ** 12])
        self.assertEqual(told[6], [1, 10 ** 12 - 10 ** 6])
        self.assertEqual(told[8], [1, (10 ** 12 + 10 ** 6) // 2])


class AgainstTheReckoning(unittest.TestCase):
    def test_boards_under_each_rule(self):
        for number in range(10):
            for numbers in BOARDS:
                with self.subTest(rule=number, numbers=numbers):
                    self.assertEqual(last_asked(board(number, numbers), SURE), reckoning.sure_answer(number, numbers))

    def test_all_small_boards_of_up_to_four(self):
        for number in range(10):
            for size in range(1, 5):
                for numbers in combinations_with_replacement(range(5), size):
                    self.assertEqual(last_asked(board(number, numbers), SURE), reckoning.sure_answer(number, numbers))

    def test_grown_boards_under_each_rule(self):
        for number in range(10):
            for calls, numbers in GROWN:
                with self.subTest(rule=number, numbers=numbers):
                    self.assertEqual(last_asked(*calls, rule(number), SURE), reckoning.sure_answer(number, numbers))


class TheBoardStays(unittest.TestCase):
    def test_sure_changes_nothing(self):
        told = asked(board(1, [4, 2, 9, 2, 7, 1]), SURE, SHOWS, SURE)
        self.assertEqual(told[2], [1, 6, 1, 2, 2, 4, 7, 9])
        self.assertEqual(told[1], told[3])
        told = asked(board(6, [4, 2, 9]), SURE, SHOWS)
        self.assertEqual(told[1:], [[1, 9], [6, 3, 2, 4, 9]])


if __name__ == "__main__":
    unittest.main()
