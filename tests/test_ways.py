"""ways: in how many ways a number is the last, and how many there are."""

import unittest
from itertools import combinations_with_replacement

import reckoning
from boards import BOARDS, GROWN
from calls import GREATEST, SHOWS, asked, board, last_asked, questions_asked, rule, ways, wipe, write


class WorkedByHand(unittest.TestCase):
    def test_by_some_ways_and_by_none(self):
        # Of 1, 2, 3 the ways leave 2, 0, 0.
        told = asked(board(1, [1, 2, 3]), ways(0), ways(1), ways(2), ways(3))
        self.assertEqual(told[1:], [[2, 3], [0, 3], [1, 3], [0, 3]])

    def test_by_all_ways(self):
        self.assertEqual(last_asked(board(0, [1, 2, 3, 4]), ways(10)), [18, 18])
        self.assertEqual(last_asked(board(6, [9, 2, 5, 9]), ways(9)), [18, 18])

    def test_one_number_has_one_way(self):
        self.assertEqual(asked(ways(0), ways(1), ways(GREATEST)), [[1, 1], [0, 1], [0, 1]])
        for number in range(10):
            self.assertEqual(asked(board(number, [7]), ways(7), ways(0))[1:], [[1, 1], [0, 1]])

    def test_two_numbers_have_one_way(self):
        self.assertEqual(asked(board(1, [3, 8]), ways(5), ways(3))[1:], [[1, 1], [0, 1]])

    def test_steps_at_different_places_are_different_though_they_wipe_out_alike(self):
        # Of 1, 1, 5 the first step leaves 5, each of the two others 3.
        self.assertEqual(asked(board(1, [1, 1, 5]), ways(3), ways(5))[1:], [[2, 3], [1, 3]])
        self.assertEqual(last_asked(board(1, [3, 3, 3]), ways(3)), [3, 3])
        self.assertEqual(last_asked(board(0, [0] * 6), ways(0)), [2700, 2700])

    def test_how_many_there_are_by_the_size(self):
        for size, count in enumerate((1, 1, 3, 18, 180, 2700), start=1):
            for number in range(10):
                for numbers in (list(range(1, size + 1)), [4] * size):
                    self.assertEqual(last_asked(board(number, numbers), ways(0))[1], count)

    def test_a_number_above_1000_that_is_the_last(self):
        self.assertEqual(last_asked(board(0, [1000, 1000, 1]), ways(2001)), [3, 3])

    def test_the_greatest_number_that_is_handed_in(self):
        # 65537 times 255 times 257 is just that.
        calls = [board(2, [1000, 65]), wipe(0, 1), write(537), rule(0), wipe(0, 1), write(255), write(257), rule(2)]
        self.assertEqual(asked(*calls, SHOWS, ways(GREATEST), ways(GREATEST - 1))[-3:],
                         [[2, 3, 255, 257, 65537], [3, 3], [0, 3]])

    def test_the_least_and_the_greatest_are_none_on_a_common_board(self):
        self.assertEqual(asked(board(0, [1, 2]), ways(0), ways(GREATEST))[1:], [[0, 1], [0, 1]])


class AgainstTheReckoning(unittest.TestCase):
    def assert_ways(self, before, number, numbers):
        lasts = [last for steps, last in reckoning.all_ways(number, numbers)]
        asked_for = sorted(last for last in set(lasts) | {last + 1 for last in lasts} if last <= GREATEST)
        told = questions_asked(before, [ways(x) for x in asked_for])
        self.assertEqual(told, [[lasts.count(x), len(lasts)] for x in asked_for])

    def test_boards_under_each_rule(self):
        for number in range(10):
            for numbers in BOARDS:
                with self.subTest(rule=number, numbers=numbers):
                    self.assert_ways([board(number, numbers)], number, numbers)

    def test_all_small_boards_of_up_to_four(self):
        for number in range(10):
            for size in range(1, 5):
                for numbers in combinations_with_replacement(range(4), size):
                    self.assert_ways([board(number, numbers)], number, numbers)

    def test_grown_boards_under_each_rule(self):
        for number in range(10):
            for calls, numbers in GROWN:
                with self.subTest(rule=number, numbers=numbers):
                    self.assert_ways(calls + [rule(number)], number, numbers)


class TheBoardStays(unittest.TestCase):
    def test_ways_changes_nothing(self):
        told = asked(board(1, [4, 2, 9, 2, 7, 1]), ways(1), SHOWS, ways(1), ways(GREATEST), SHOWS)
        self.assertEqual(told[2], [1, 6, 1, 2, 2, 4, 7, 9])
        self.assertEqual(told[5], told[2])
        self.assertEqual(told[1], told[3])


if __name__ == "__main__":
    unittest.main()
