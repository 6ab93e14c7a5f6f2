"""lasts: which numbers can be the last."""

import math
import unittest
from itertools import combinations_with_replacement

import reckoning
from boards import BOARDS, GROWN
from calls import LASTS, SHOWS, asked, board, last_asked, rule, wipe, write
from wipeboard.board import steps_in_order


class WorkedByHand(unittest.TestCase):
    def test_one_number(self):
        self.assertEqual(asked(LASTS), [[1, 0]])
        for number in range(10):
            self.assertEqual(last_asked(board(number, [17]), LASTS), [1, 17])

    def test_two_numbers(self):
        for number, last in enumerate([10, 6, 16, 26, 2, 8, 8, 2, 5, 9]):
            self.assertEqual(last_asked(board(number, [8, 2]), LASTS), [1, last])

    def test_differences(self):
        self.assertEqual(last_asked(board(1, [1, 2, 3]), LASTS), [2, 0, 2])
        self.assertEqual(last_asked(board(1, [1, 1, 5]), LASTS), [2, 3, 5])

    def test_halves(self):
        self.assertEqual(last_asked(board(8, [0, 0, 4]), LASTS), [2, 1, 2])

    def test_sums_less_1_with_zeros(self):
        self.assertEqual(last_asked(board(9, [0, 0, 2]), LASTS), [2, 0, 1])

    def test_alike_numbers_are_told_once(self):
        self.assertEqual(last_asked(board(1, [3, 3, 3]), LASTS), [1, 3])

    def test_greater_than_any_that_is_handed_in(self):
        self.assertEqual(last_asked(board(2, [1000] * 6), LASTS), [1, 1000 ** 6])
        self.assertEqual(last_asked(board(3, [1000] * 6), LASTS), [1, 1001 ** 6 - 1])

    def test_greater_still_behind_steps(self):
        calls = [board(2, [1000] * 6)]
        power = 6
        for turn in range(3):
            calls += [wipe(0, 1)] * 5 + [write(1000)] * 5
            power += 5
        self.assertEqual(last_asked(*calls, LASTS), [1, 1000 ** power])


class AgainstTheReckoning(unittest.TestCase):
    def test_boards_under_each_rule(self):
        for number in range(10):
            for numbers in BOARDS:
                with self.subTest(rule=number, numbers=numbers):
                    self.assertEqual(last_asked(board(number, numbers), LASTS),
                                     reckoning.lasts_answer(number, numbers))

    def test_all_small_boards_of_up_to_four(self):
        for number in range(10):
            for size in range(1, 5):
                for numbers in combinations_with_replacement(range(5), size):
                    self.assertEqual(last_asked(board(number, numbers), LASTS),
                                     reckoning.lasts_answer(number, numbers))

    def test_grown_boards_under_each_rule(self):
        for number in range(10):
            for calls, numbers in GROWN:
                with self.subTest(rule=number, numbers=numbers):
                    self.assertEqual(last_asked(*calls, rule(number), LASTS),
                                     reckoning.lasts_answer(number, numbers))

    def test_behind_calls_that_change_something(self):
        told = asked(board(0, [9, 4, 1]), rule(1), LASTS, write(6), LASTS, wipe(1, 3), LASTS, rule(8), LASTS)
        self.assertEqual(told[2], reckoning.lasts_answer(1, [1, 4, 9]))
        self.assertEqual(told[4], reckoning.lasts_answer(1, [1, 4, 6, 9]))
        self.assertEqual(told[5], [5, 1, 5, 6])
        self.assertEqual(told[6], reckoning.lasts_answer(1, [1, 5, 6]))
        self.assertEqual(told[8], reckoning.lasts_answer(8, [1, 5, 6]))


class WhatItStandsFor(unittest.TestCase):
    def test_by_some_rules_it_is_always_the_same(self):
        numbers = [2, 3, 4, 7, 10, 12]
        same = {0: sum(numbers), 2: math.prod(numbers), 3: math.prod(x + 1 for x in numbers) - 1,
                4: math.gcd(*numbers), 5: math.lcm(*numbers), 6: 12, 7: 2, 9: sum(numbers) - 5}
        for number, last in same.items():
            self.assertEqual(last_asked(board(number, numbers), LASTS), [1, last])

    def test_by_differences_it_is_even_or_odd_as_the_sum_is(self):
        for numbers in BOARDS:
            for last in last_asked(board(1, numbers), LASTS)[1:]:
                self.assertEqual(last % 2, sum(numbers) % 2)

    def test_of_1_to_n_it_can_be_made_0_or_1(self):
        for n in range(1, 7):
            numbers = list(range(1, n + 1))
            self.assertEqual(last_asked(board(1, numbers), LASTS)[1], sum(numbers) % 2)


class TheBoardStays(unittest.TestCase):
    def test_lasts_changes_nothing(self):
        told = asked(board(1, [4, 2, 9, 2, 7, 1]), LASTS, SHOWS, LASTS)
        self.assertEqual(told[2], [1, 6, 1, 2, 2, 4, 7, 9])
        self.assertEqual(told[1], told[3])


class Steps(unittest.TestCase):
    def test_by_the_first_place_then_by_the_second(self):
        self.assertEqual(steps_in_order(1), [])
        self.assertEqual(steps_in_order(2), [(0, 1)])
        self.assertEqual(steps_in_order(4), [(0, 1), (0, 2), (0, 3), (1, 2), (1, 3), (2, 3)])


if __name__ == "__main__":
    unittest.main()
