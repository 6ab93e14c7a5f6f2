"""Promise 4, how: the first way to a number, and the refusal."""

import unittest
from itertools import combinations_with_replacement

import reckoning
from boards import BOARDS, GROWN
from calls import GREATEST, LASTS, SHOWS, asked, board, how, last_asked, questions_asked, rule, wipe, write


class WorkedByHand(unittest.TestCase):
    def test_one_number_has_no_step(self):
        self.assertEqual(asked(how(0)), [[0]])
        for number in range(10):
            self.assertEqual(last_asked(board(number, [7]), how(7)), [0])

    def test_two_numbers(self):
        self.assertEqual(last_asked(board(1, [8, 3]), how(5)), [1, 0, 1])

    def test_the_first_of_several_ways(self):
        # Of 1, 2, 3 the ways leave 2, 0, 0.
        self.assertEqual(last_asked(board(1, [1, 2, 3]), how(2)), [2, 0, 1, 0, 1])
        self.assertEqual(last_asked(board(1, [1, 2, 3]), how(0)), [2, 0, 2, 0, 1])

    def test_the_first_of_all_where_all_are_alike(self):
        self.assertEqual(last_asked(board(0, [1, 2, 3, 4, 5, 6]), how(21)), [5] + [0, 1] * 5)
        self.assertEqual(last_asked(board(2, [0] * 6), how(0)), [5] + [0, 1] * 5)

    def test_the_only_way_is_the_last_one(self):
        # By halves of 1, 4, 4 only 4 and 4, wiped out first, leave 2.
        self.assertEqual(last_asked(board(8, [1, 4, 4]), how(2)), [2, 1, 2, 0, 1])
        self.assertEqual(last_asked(board(8, [1, 4, 4]), how(3)), [2, 0, 1, 0, 1])

    def test_places_are_those_of_the_board_before_each_step(self):
        # Behind 27 less 1 stand 3, 9, 26, and behind 26 less 3 there stand 9, 23.
        self.assertEqual(asked(board(1, [1, 3, 9, 27]), wipe(0, 3), wipe(0, 2), wipe(0, 1))[1:],
                         [[26, 3, 9, 26], [23, 9, 23], [14, 14]])
        self.assertEqual(asked(board(1, [1, 3, 9, 27]), how(14), how(16), how(18), how(20), how(22))[1:],
                         [[3, 0, 3, 0, 2, 0, 1], [3, 0, 1, 0, 2, 0, 1], [-6], [3, 0, 1, 0, 1, 0, 1],
                          [3, 0, 2, 0, 1, 0, 1]])

    def test_the_greatest_number_that_is_handed_in(self):
        # 65537 times 255 times 257 is just that.
        calls = [board(2, [1000, 65]), wipe(0, 1), write(537), rule(0), wipe(0, 1), write(255), write(257), rule(2)]
        self.assertEqual(asked(*calls, how(GREATEST), how(GREATEST - 1))[-2:], [[2, 0, 1, 0, 1], [-6]])


def steps_of(told):
    """The calls that make the steps that how has answered."""
    return [wipe(told[at], told[at + 1]) for at in range(1, len(told), 2)]


class Refused(unittest.TestCase):
    def test_a_number_that_cannot_be_the_last(self):
        for x in (1, 3, 4, 1000, 1001, GREATEST):
            self.assertEqual(asked(board(1, [1, 2, 3]), how(x), SHOWS)[1:], [[-6], [1, 3, 1, 2, 3]])

    def test_one_number(self):
        self.assertEqual(asked(how(1), SHOWS), [[-6], [0, 1, 0]])
        self.assertEqual(asked(board(7, [5]), how(0), how(4), how(6), SHOWS)[1:], [[-6]] * 3 + [[7, 1, 5]])

    def test_a_number_on_the_board_that_is_not_left(self):
        self.assertEqual(asked(board(6, [2, 4, 8]), how(2), how(4), how(8))[1:], [[-6], [-6], [2, 0, 1, 0, 1]])


class AgainstTheReckoning(unittest.TestCase):
    def assert_how(self, before, number, numbers):
        expected = reckoning.how_answers(number, numbers)
        asked_for = sorted(x for x in set(expected) | {last + 1 for last in expected} if x <= GREATEST)
        told = questions_asked(before, [how(x) for x in asked_for])
        self.assertEqual(told, [expected.get(x, [-6]) for x in asked_for])

    def test_boards_under_each_rule(self):
        for number in range(10):
            for numbers in BOARDS:
                with self.subTest(rule=number, numbers=numbers):
                    self.assert_how([board(number, numbers)], number, numbers)

    def test_all_small_boards_of_up_to_four(self):
        for number in range(10):
            for size in range(1, 5):
                for numbers in combinations_with_replacement(range(4), size):
                    self.assert_how([board(number, numbers)], number, numbers)

    def test_grown_boards_under_each_rule(self):
        for number in range(10):
            for calls, numbers in GROWN:
                with self.subTest(rule=number, numbers=numbers):
                    self.assert_how(calls + [rule(number)], number, numbers)


class TheStepsMade(unittest.TestCase):
    def test_wiped_one_after_another_they_leave_the_number(self):
        for number in (1, 8, 9):
            before = board(number, [0, 0, 3, 11, 17, 40])
            for last in last_asked(before, LASTS)[1:]:
                told = last_asked(before, how(last))
                self.assertEqual(told[0], 5)
                self.assertEqual(last_asked(before, *steps_of(told), SHOWS), [number, 1, last])


class TheBoardStays(unittest.TestCase):
    def test_how_changes_nothing(self):
        told = asked(board(1, [4, 2, 9, 2, 7, 1]), how(1), SHOWS, how(1), how(GREATEST), SHOWS)
        self.assertEqual(told[2], [1, 6, 1, 2, 2, 4, 7, 9])
        self.assertEqual(told[5], told[2])
        self.assertEqual(told[1], told[3])
        self.assertEqual(told[1][0], 5)
        self.assertEqual(told[4], [-6])


if __name__ == "__main__":
    unittest.main()
