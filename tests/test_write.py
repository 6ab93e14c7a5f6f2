"""Promise 3: write, with its refusals."""

import unittest

from calls import GREATEST, SHOWS, asked, board, last_asked, wipe, write


class Taken(unittest.TestCase):
    def test_to_the_number_at_the_beginning(self):
        self.assertEqual(asked(write(5), SHOWS), [[2], [0, 2, 0, 5]])

    def test_put_in_by_the_rising_order(self):
        for x, after in ((1, [1, 3, 7]), (5, [3, 5, 7]), (9, [3, 7, 9]), (3, [3, 3, 7]), (7, [3, 7, 7])):
            self.assertEqual(asked(board(6, [7, 3]), write(x), SHOWS), [[2], [3], [6, 3] + after])

    def test_0_and_1000_are_taken(self):
        self.assertEqual(asked(write(0), write(1000), SHOWS), [[2], [3], [0, 3, 0, 0, 1000]])

    def test_up_to_six(self):
        told = asked(write(5), write(4), write(3), write(2), write(1), SHOWS)
        self.assertEqual(told, [[2], [3], [4], [5], [6], [0, 6, 0, 1, 2, 3, 4, 5]])

    def test_below_a_number_above_1000(self):
        told = asked(board(2, [1000, 1000]), wipe(0, 1), write(1000), SHOWS)
        self.assertEqual(told[2:], [[2], [2, 2, 1000, 1000000]])


class Refused(unittest.TestCase):
    def test_1001_and_above(self):
        for x in (1001, 1002, GREATEST):
            self.assertEqual(asked(board(3, [2, 1]), write(x), SHOWS), [[2], [-1], [3, 2, 1, 2]])

    def test_a_seventh_number(self):
        for x in (0, 7, 1000):
            told = asked(board(3, [6, 5, 4, 3, 2, 1]), write(x), SHOWS)
            self.assertEqual(told, [[6], [-5], [3, 6, 1, 2, 3, 4, 5, 6]])

    def test_both_at_once_is_the_one_told_first(self):
        for x in (1001, GREATEST):
            told = asked(board(3, [6, 5, 4, 3, 2, 1]), write(x), SHOWS)
            self.assertEqual(told, [[6], [-1], [3, 6, 1, 2, 3, 4, 5, 6]])

    def test_there_is_room_again_behind_a_step(self):
        told = asked(board(0, [1] * 6), write(1), wipe(0, 1), write(1), write(1))
        self.assertEqual(told, [[6], [-5], [2, 1, 1, 1, 1, 2], [6], [-5]])

    def test_a_refusal_leaves_the_next_call_as_it_was(self):
        self.assertEqual(last_asked(board(0, [3]), write(1001), write(4)), [2])


if __name__ == "__main__":
    unittest.main()
