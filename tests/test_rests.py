"""Promise 4, rests: what the last number can leave when it is divided, and the refusal."""

import unittest

import reckoning
from boards import BOARDS, GROWN
from calls import GREATEST, SHOWS, asked, board, last_asked, questions_asked, rests, rule


class WorkedByHand(unittest.TestCase):
    def test_one_number(self):
        self.assertEqual(asked(rests(1), rests(2), rests(100)), [[1, 0]] * 3)
        self.assertEqual(asked(board(5, [257]), rests(1), rests(2), rests(10), rests(100))[1:],
                         [[1, 0], [1, 1], [1, 7], [1, 57]])

    def test_1_leaves_0_alone(self):
        self.assertEqual(last_asked(board(1, [1, 2, 3]), rests(1)), [1, 0])

    def test_2_by_differences(self):
        # Of 1, 2, 3 the last is 0 or 2; of 1, 1, 5 it is 3 or 5.
        self.assertEqual(last_asked(board(1, [1, 2, 3]), rests(2)), [1, 0])
        self.assertEqual(last_asked(board(1, [1, 1, 5]), rests(2)), [1, 1])

    def test_2_with_both_rests(self):
        self.assertEqual(last_asked(board(8, [0, 0, 4]), rests(2)), [2, 0, 1])

    def test_100(self):
        self.assertEqual(last_asked(board(1, [1, 2, 3]), rests(100)), [2, 0, 2])
        self.assertEqual(last_asked(board(0, [1000, 150]), rests(100)), [1, 50])

    def test_rising_though_the_last_numbers_rise_otherwise(self):
        # 3 and 5 leave 3 and 0.
        self.assertEqual(last_asked(board(1, [1, 1, 5]), rests(5)), [2, 0, 3])
        # 14, 16, 20 and 22 leave 5, 7, 2 and 4.
        self.assertEqual(last_asked(board(1, [1, 3, 9, 27]), rests(9)), [4, 2, 4, 5, 7])

    def test_each_once(self):
        # 14, 16, 20 and 22 leave 2, 1, 2 and 1.
        self.assertEqual(last_asked(board(1, [1, 3, 9, 27]), rests(3)), [2, 1, 2])

    def test_greater_than_any_that_is_handed_in(self):
        self.assertEqual(last_asked(board(3, [1000] * 6), rests(7)), [1, (1001 ** 6 - 1) % 7])
        self.assertEqual(last_asked(board(2, [999] * 6), rests(100)), [1, 1])


class Refused(unittest.TestCase):
    def test_0_and_101_and_above(self):
        for m in (0, 101, 102, GREATEST):
            self.assertEqual(asked(board(1, [1, 2, 3]), rests(m), SHOWS)[1:], [[-1], [1, 3, 1, 2, 3]])
            self.assertEqual(asked(rests(m), SHOWS), [[-1], [0, 1, 0]])


class AgainstTheReckoning(unittest.TestCase):
    def assert_rests(self, before, number, numbers, divisors):
        told = questions_asked(before, [rests(m) for m in divisors])
        lasts = reckoning.lasts(number, list(numbers))
        expected = [sorted({last % m for last in lasts}) for m in divisors]
        self.assertEqual(told, [[len(found)] + found for found in expected])

    def test_boards_under_each_rule(self):
        for number in range(10):
            for numbers in BOARDS:
                with self.subTest(rule=number, numbers=numbers):
                    self.assert_rests([board(number, numbers)], number, numbers, (1, 2, 3, 7, 10, 64, 99, 100))

    def test_every_m(self):
        for number in (1, 8, 9):
            for numbers in ([0], [0, 0, 3, 11], [1000, 1, 729, 64, 500]):
                self.assert_rests([board(number, numbers)], number, numbers, range(1, 101))

    def test_grown_boards_under_each_rule(self):
        for number in range(10):
            for calls, numbers in GROWN:
                with self.subTest(rule=number, numbers=numbers):
                    self.assert_rests(calls + [rule(number)], number, numbers, (1, 2, 9, 51, 100))


class TheBoardStays(unittest.TestCase):
    def test_rests_changes_nothing(self):
        told = asked(board(1, [4, 2, 9, 2, 7, 1]), rests(100), SHOWS, rests(100), rests(101), SHOWS)
        self.assertEqual(told[2], [1, 6, 1, 2, 2, 4, 7, 9])
        self.assertEqual(told[5], told[2])
        self.assertEqual(told[1], told[3])
        self.assertEqual(told[4], [-1])


if __name__ == "__main__":
    unittest.main()
