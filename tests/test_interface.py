"""The interface: the form of what is handed in and given back, and what is left alone."""

import contextlib
import io
import unittest

from calls import LASTS, SHOWS, asked, board, joined, rule, taken_apart, wipe, write
from wipeboard.board import answers


class Untouchable(list):
    """A list that can be read alone."""

    def refuse(self, *given):
        raise AssertionError("what is handed in was changed")

    append = extend = insert = pop = remove = clear = sort = reverse = refuse
    __setitem__ = __delitem__ = __iadd__ = __imul__ = refuse


ALL_SIX = joined(board(1, [9, 4, 4]), rule(8), wipe(0, 2), SHOWS, write(3), LASTS, write(1001), wipe(5, 5))


class TheForm(unittest.TestCase):
    def test_each_answer_has_its_count_before_it(self):
        calls = [3,
                 0, 1, 3, 9, 4, 2,
                 5,
                 2, 0, 2,
                 2, 3, 0,
                 4, 1001,
                 4, 8,
                 1, 10,
                 1, 0,
                 3,
                 5]
        self.assertEqual(answers(calls), [3, 0, 1, 0,
                                          1, 3,
                                          3, 2, 3, 7,
                                          3, 7, 4, 7,
                                          1, -2,
                                          1, -1,
                                          1, 3,
                                          1, -1,
                                          1, 0,
                                          5, 0, 3, 4, 7, 8,
                                          2, 1, 19])

    def test_one_call_alone(self):
        self.assertEqual(answers([0, 3, 1, 4]), [1, 1])
        self.assertEqual(answers([1, 4]), [1, 0])
        self.assertEqual(answers([2, 0, 0]), [1, -1])
        self.assertEqual(answers([3]), [3, 0, 1, 0])
        self.assertEqual(answers([4, 4]), [1, 2])
        self.assertEqual(answers([5]), [2, 1, 0])

    def test_a_refused_row_is_passed_over_whole(self):
        self.assertEqual(answers([0, 0, 0, 3]), [1, -1, 3, 0, 1, 0])
        self.assertEqual(answers([0, 0, 40] + [5] * 40 + [3]), [1, -1, 3, 0, 1, 0])

    def test_forty_calls(self):
        self.assertEqual(answers([3] * 40), [3, 0, 1, 0] * 40)
        calls = joined(*[board(1, [6, 3, 1]), wipe(1, 2), write(9), SHOWS] * 9 + [LASTS] * 4)
        turn = [[3], [3, 1, 3], [3], [1, 3, 1, 3, 9]]
        # Of 1, 3, 9: 2 and 9 leave 7, 8 and 3 leave 5, 6 and 1 leave 5.
        self.assertEqual(taken_apart(answers(calls)), turn * 9 + [[2, 5, 7]] * 4)

    def test_forty_boards_of_forty_numbers(self):
        self.assertEqual(answers(joined(*[board(0, [1] * 40)] * 40)), [1, -1] * 40)

    def test_whole_numbers_in_a_list(self):
        told = answers(list(ALL_SIX))
        self.assertIs(type(told), list)
        self.assertEqual({type(number) for number in told}, {int})

    def test_a_refusal_stands_alone_and_nothing_else_is_below_0(self):
        for told in asked(ALL_SIX):
            self.assertTrue(told)
            if min(told) < 0:
                self.assertEqual(len(told), 1)


class LeftAlone(unittest.TestCase):
    def test_what_is_handed_in_is_the_same_behind_the_call(self):
        calls = list(ALL_SIX)
        answers(calls)
        self.assertEqual(calls, ALL_SIX)

    def test_it_is_not_changed_for_a_while_either(self):
        self.assertEqual(answers(Untouchable(ALL_SIX)), answers(list(ALL_SIX)))

    def test_what_is_given_back_is_another_list(self):
        calls = [3]
        self.assertIsNot(answers(calls), calls)


class NothingKept(unittest.TestCase):
    def test_two_in_a_row_know_nothing_of_one_another(self):
        first = answers(list(ALL_SIX))
        self.assertEqual(answers([3]), [3, 0, 1, 0])
        self.assertEqual(answers(list(ALL_SIX)), first)

    def test_what_is_given_back_may_be_changed(self):
        first = answers(list(ALL_SIX))
        told = list(first)
        first.clear()
        self.assertEqual(answers(list(ALL_SIX)), told)

    def test_it_prints_nothing(self):
        out, err = io.StringIO(), io.StringIO()
        with contextlib.redirect_stdout(out), contextlib.redirect_stderr(err):
            answers(list(ALL_SIX))
        self.assertEqual(out.getvalue() + err.getvalue(), "")


if __name__ == "__main__":
    unittest.main()
