"""Promise 4, which: the last number by the k-th way, and the refusal."""

import unittest

import reckoning
from boards import BOARDS, GROWN
from calls import GREATEST, SHOWS, asked, board, questions_asked, rule, which


class WorkedByHand(unittest.TestCase):
    def test_one_number(self):
        self.assertEqual(asked(which(0), which(1), which(GREATEST)), [[0], [-3], [-3]])
        for number in range(10):
            self.assertEqual(asked(board(number, [7]), which(0), which(1))[1:], [[7], [-3]])

    def test_two_numbers(self):
        self.assertEqual(asked(board(1, [8, 3]), which(0), which(1))[1:], [[5], [-3]])

    def test_each_way_of_three_numbers(self):
        self.assertEqual(asked(board(1, [1, 2, 3]), which(0), which(1), which(2), which(3))[1:],
                         [[2], [0], [0], [-3]])
        self.assertEqual(asked(board(8, [0, 0, 4]), which(0), which(1), which(2))[1:], [[2], [1], [1]])
        self.assertEqual(asked(board(1, [1, 2, 7]), which(0), which(1), which(2))[1:], [[6], [4], [4]])

    def test_each_way_of_four_numbers(self):
        # Behind the six first steps of 1, 3, 9, 27 stand 2, 9, 27; 3, 8, 27; 3, 9, 26; 1, 6, 27; 1, 9, 24; 1, 3, 18.
        # By the three ways on: of a, b, c first b - a and c, then c - a and b, then c - b and a.
        lasts = [20, 16, 16, 22, 16, 16, 20, 14, 14, 22, 20, 20, 16, 14, 14, 16, 14, 14]
        self.assertEqual(questions_asked([board(1, [1, 3, 9, 27])], [which(k) for k in range(18)]),
                         [[last] for last in lasts])


class Refused(unittest.TestCase):
    def test_the_place_behind_the_last_one(self):
        for size, count in enumerate((1, 1, 3, 18, 180, 2700), start=1):
            numbers = list(range(3, 3 + size))
            total = sum(numbers)
            told = asked(board(0, numbers), which(0), which(count - 1), which(count), which(GREATEST), SHOWS)
            self.assertEqual(told[1:], [[total], [total], [-3], [-3], [0, size] + numbers])


class AgainstTheReckoning(unittest.TestCase):
    def assert_each(self, before, number, numbers, places):
        lasts = [last for steps, last in reckoning.all_ways(number, numbers)]
        told = questions_asked(before, [which(k) for k in places(len(lasts))])
        self.assertEqual(len(told), len(places(len(lasts))))
        # One by one: unittest takes minutes to tell how two rows of thousands differ.
        for k, answer in zip(places(len(lasts)), told):
            self.assertEqual(answer, [lasts[k]], k)

    def test_each_k_of_boards_of_up_to_four(self):
        for number in range(10):
            for numbers in BOARDS:
                if len(numbers) <= 4:
                    with self.subTest(rule=number, numbers=numbers):
                        self.assert_each([board(number, numbers)], number, numbers, range)

    def test_each_k_of_five_and_six_by_differences_and_halves(self):
        for number in (1, 8):
            for numbers in ([3, 1, 4, 1, 5], [1, 2, 4, 9, 30], [1000, 1, 729, 64, 500, 0]):
                with self.subTest(rule=number, numbers=numbers):
                    self.assert_each([board(number, numbers)], number, numbers, range)

    def test_some_k_of_all_boards_under_each_rule(self):
        for number in range(10):
            for numbers in BOARDS:
                with self.subTest(rule=number, numbers=numbers):
                    self.assert_each([board(number, numbers)], number, numbers,
                                     lambda count: sorted({0, count // 3, count // 2, count - 1}))

    def test_grown_boards_under_each_rule(self):
        for number in range(10):
            for calls, numbers in GROWN:
                with self.subTest(rule=number, numbers=numbers):
                    self.assert_each(calls + [rule(number)], number, numbers, range)


class TheBoardStays(unittest.TestCase):
    def test_which_changes_nothing(self):
        told = asked(board(1, [4, 2, 9, 2, 7, 1]), which(1234), SHOWS, which(1234), which(2700), SHOWS)
        self.assertEqual(told[2], [1, 6, 1, 2, 2, 4, 7, 9])
        self.assertEqual(told[5], told[2])
        self.assertEqual(told[1], told[3])
        self.assertEqual(told[4], [-3])


if __name__ == "__main__":
    unittest.main()
