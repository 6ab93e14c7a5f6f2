"""Promise 1: board and rule, with their refusals; shows behind them."""

import unittest

from calls import GREATEST, SHOWS, asked, board, last_asked, rule, wipe


class TheBeginning(unittest.TestCase):
    def test_the_number_0_stands_alone_under_rule_0(self):
        self.assertEqual(asked(SHOWS), [[0, 1, 0]])

    def test_shows_changes_nothing(self):
        self.assertEqual(asked(SHOWS, SHOWS), [[0, 1, 0], [0, 1, 0]])


class BoardTaken(unittest.TestCase):
    def test_one_number(self):
        self.assertEqual(asked(board(0, [7]), SHOWS), [[1], [0, 1, 7]])

    def test_six_numbers_in_any_order(self):
        self.assertEqual(asked(board(4, [9, 3, 11, 0, 10, 2]), SHOWS), [[6], [4, 6, 0, 2, 3, 9, 10, 11]])

    def test_every_count_from_1_to_6(self):
        for count in range(1, 7):
            numbers = list(range(count, 0, -1))
            self.assertEqual(asked(board(1, numbers), SHOWS), [[count], [1, count] + sorted(numbers)])

    def test_alike_numbers_stay_side_by_side(self):
        self.assertEqual(asked(board(2, [5, 1, 5, 1, 5]), SHOWS), [[5], [2, 5, 1, 1, 5, 5, 5]])

    def test_each_rule_from_0_to_9(self):
        for number in range(10):
            self.assertEqual(asked(board(number, [3, 2]), SHOWS), [[2], [number, 2, 2, 3]])

    def test_1000_and_0_are_taken(self):
        self.assertEqual(asked(board(9, [1000, 0, 1000]), SHOWS), [[3], [9, 3, 0, 1000, 1000]])

    def test_a_second_board_takes_the_place_of_the_first(self):
        self.assertEqual(last_asked(board(3, [1, 2, 3]), board(5, [8, 4]), SHOWS), [5, 2, 4, 8])


class BoardRefused(unittest.TestCase):
    def assert_refused(self, refused):
        told = asked(board(6, [5, 4, 4]), refused, SHOWS)
        self.assertEqual(told, [[3], [-1], [6, 3, 4, 4, 5]])
        self.assertEqual(asked(refused, SHOWS), [[-1], [0, 1, 0]])

    def test_rule_10_and_above(self):
        for number in (10, 11, GREATEST):
            self.assert_refused(board(number, [1, 2]))

    def test_no_numbers(self):
        self.assert_refused(board(1, []))

    def test_seven_numbers_and_more(self):
        for count in (7, 8, 40):
            self.assert_refused(board(1, [1] * count))

    def test_1001_at_every_place(self):
        for place in range(6):
            numbers = [1] * 6
            numbers[place] = 1001
            self.assert_refused(board(1, numbers))
        self.assert_refused(board(1, [1001]))
        self.assert_refused(board(1, [GREATEST, 1]))

    def test_all_at_once_is_one_refusal(self):
        self.assert_refused(board(10, [1001] * 7))
        self.assert_refused(board(GREATEST, []))


class Rule(unittest.TestCase):
    def test_0_to_9_are_taken_and_the_numbers_stay(self):
        for number in range(10):
            told = asked(board(9 - number, [3, 1, 2]), rule(number), SHOWS)
            self.assertEqual(told, [[3], [0], [number, 3, 1, 2, 3]])

    def test_the_rule_holds_from_then_on(self):
        told = asked(board(0, [2, 3, 7]), rule(2), wipe(1, 2), rule(1), wipe(0, 1))
        self.assertEqual(told, [[3], [0], [21, 2, 21], [0], [19, 19]])

    def test_on_the_board_at_the_beginning(self):
        self.assertEqual(asked(rule(9), SHOWS), [[0], [9, 1, 0]])

    def test_10_and_above_are_refused(self):
        for number in (10, 11, GREATEST):
            told = asked(board(7, [3, 1]), rule(number), SHOWS)
            self.assertEqual(told, [[2], [-1], [7, 2, 1, 3]])


if __name__ == "__main__":
    unittest.main()
