"""The interface: the form of what is handed in and given back, and what is left alone."""

import contextlib
import io
import unittest

import reckoning
from calls import (GREATEST, LASTS, SHOWS, SURE, asked, board, how, joined, rests, rule, taken_apart, ways, which,
                   wipe, write)
from wipeboard.board import answers


class Untouchable(list):
    """A list that can be read alone."""

    def refuse(self, *given):
        raise AssertionError("what is handed in was changed")

    append = extend = insert = pop = remove = clear = sort = reverse = refuse
    __setitem__ = __delitem__ = __iadd__ = __imul__ = refuse


# Each kind of call, and each refusal.
EACH_KIND = [
    board(1, [9, 4, 4]), rule(8), wipe(0, 2), SHOWS, write(3), LASTS, ways(4), how(4), which(3), SURE, rests(3), how(9),
    rests(0), board(10, [1]), rule(10), wipe(0, 3), wipe(2, 1), write(1001), board(0, []), SHOWS,
    board(1, [5, 1, 2, 7, 7, 1]), write(2), SHOWS,
]
ALL_CALLS = joined(*EACH_KIND)


class TheForm(unittest.TestCase):
    def test_each_answer_has_its_count_before_it(self):
        calls = [3,
                 0, 1, 3, 9, 4, 2,
                 5,
                 2, 0, 2,
                 2, 3, 0,
                 4, 1001,
                 4, 8,
                 1, 10,
                 1, 0,
                 3,
                 5]
        self.assertEqual(answers(calls), [3, 0, 1, 0,
                                          1, 3,
                                          3, 2, 3, 7,
                                          3, 7, 4, 7,
                                          1, -2,
                                          1, -1,
                                          1, 3,
                                          1, -1,
                                          1, 0,
                                          5, 0, 3, 4, 7, 8,
                                          2, 1, 19])

    def test_the_questions_have_their_counts_too(self):
        calls = [0, 1, 3, 1, 2, 3,
                 6, 0,
                 7, 0,
                 7, 1,
                 8, 0,
                 8, 3,
                 9,
                 10, 100,
                 10, 101,
                 3]
        self.assertEqual(answers(calls), [1, 3,
                                          2, 2, 3,
                                          5, 2, 0, 2, 0, 1,
                                          1, -6,
                                          1, 2,
                                          1, -3,
                                          3, 0, 0, 2,
                                          3, 2, 0, 2,
                                          1, -1,
                                          5, 1, 3, 1, 2, 3])

    def test_one_call_alone(self):
        self.assertEqual(answers([0, 3, 1, 4]), [1, 1])
        self.assertEqual(answers([1, 4]), [1, 0])
        self.assertEqual(answers([2, 0, 0]), [1, -1])
        self.assertEqual(answers([3]), [3, 0, 1, 0])
        self.assertEqual(answers([4, 4]), [1, 2])
        self.assertEqual(answers([5]), [2, 1, 0])
        self.assertEqual(answers([6, 0]), [2, 1, 1])
        self.assertEqual(answers([6, 4]), [2, 0, 1])
        self.assertEqual(answers([7, 0]), [1, 0])
        self.assertEqual(answers([7, 4]), [1, -6])
        self.assertEqual(answers([8, 0]), [1, 0])
        self.assertEqual(answers([8, 4]), [1, -3])
        self.assertEqual(answers([9]), [2, 1, 0])
        self.assertEqual(answers([10, 4]), [2, 1, 0])
        self.assertEqual(answers([10, 0]), [1, -1])

    def test_a_refused_row_is_passed_over_whole(self):
        self.assertEqual(answers([0, 0, 0, 3]), [1, -1, 3, 0, 1, 0])
        self.assertEqual(answers([0, 0, 40] + [5] * 40 + [3]), [1, -1, 3, 0, 1, 0])

    def test_forty_calls(self):
        self.assertEqual(answers([3] * 40), [3, 0, 1, 0] * 40)
        calls = joined(*[board(1, [6, 3, 1]), wipe(1, 2), write(9), SHOWS] * 9 + [LASTS] * 4)
        turn = [[3], [3, 1, 3], [3], [1, 3, 1, 3, 9]]
        # Of 1, 3, 9: 2 and 9 leave 7, 8 and 3 leave 5, 6 and 1 leave 5.
        self.assertEqual(taken_apart(answers(calls)), turn * 9 + [[2, 5, 7]] * 4)

    def test_forty_boards_of_forty_numbers(self):
        self.assertEqual(answers(joined(*[board(0, [1] * 40)] * 40)), [1, -1] * 40)

    def test_whole_numbers_in_a_list(self):
        told = answers(list(ALL_CALLS))
        self.assertIs(type(told), list)
        self.assertEqual({type(number) for number in told}, {int})

    def test_a_refusal_stands_alone_and_nothing_else_is_below_0(self):
        for told in asked(*EACH_KIND):
            self.assertTrue(told)
            if min(told) < 0:
                self.assertEqual(len(told), 1)


class AllKindsTogether(unittest.TestCase):
    def test_each_kind_in_one_list(self):
        self.assertEqual({call[0] for call in EACH_KIND}, set(range(11)))
        told = asked(*EACH_KIND)
        self.assertEqual(told, reckoning.all_answers(*EACH_KIND))
        self.assertEqual({(call[0], answer[0]) for call, answer in zip(EACH_KIND, told) if answer[0] < 0},
                         {(0, -1), (1, -1), (2, -2), (2, -1), (4, -1), (4, -5), (7, -6), (8, -3), (10, -1)})

    def test_forty_calls_of_every_kind_eight_of_them_questions(self):
        calls = [
            SHOWS, write(7), write(12), LASTS, rule(1), ways(5), SHOWS, wipe(0, 1), SHOWS, how(5),
            board(2, [1000, 1000, 1000, 1000, 1000, 999]), SHOWS, wipe(0, 5), wipe(0, 3), wipe(1, 2), SHOWS,
            which(2), rule(8), SURE, SHOWS, rests(100), write(1000), write(0), write(3), SHOWS, rule(10),
            board(11, [3]), wipe(6, 0), wipe(1, 1), write(4), SHOWS, rule(1), which(2699), wipe(0, 1), rule(3), SHOWS,
            wipe(0, 4), how(GREATEST), rule(0), SHOWS,
        ]
        kinds = [call[0] for call in calls]
        self.assertEqual(len(kinds), 40)
        self.assertEqual(set(kinds), set(range(11)))
        self.assertEqual(sum(kind > 4 for kind in kinds), 8)
        handed_in = joined(*calls)
        self.assertEqual(taken_apart(answers(handed_in)), reckoning.all_answers(*calls))
        self.assertEqual(handed_in, joined(*calls))

    def test_every_call_behind_every_other(self):
        calls = EACH_KIND + [wipe(0, 1), write(0), how(0), how(6), ways(6), which(0), rests(1), rests(100), rests(0)]
        boards = [[], [board(1, [9, 3, 2])], [board(9, [0, 0, 4, 1])], [board(2, [1000, 999]), wipe(0, 1), write(6)]]
        for before in boards:
            for first in calls:
                for second in calls:
                    row = before + [first, SHOWS, second, SHOWS]
                    self.assertEqual(asked(*row), reckoning.all_answers(*row), row)


class LeftAlone(unittest.TestCase):
    def test_what_is_handed_in_is_the_same_behind_the_call(self):
        calls = list(ALL_CALLS)
        answers(calls)
        self.assertEqual(calls, ALL_CALLS)

    def test_it_is_not_changed_for_a_while_either(self):
        self.assertEqual(answers(Untouchable(ALL_CALLS)), answers(list(ALL_CALLS)))

    def test_what_is_given_back_is_another_list(self):
        calls = [3]
        self.assertIsNot(answers(calls), calls)


class NothingKept(unittest.TestCase):
    def test_two_in_a_row_know_nothing_of_one_another(self):
        first = answers(list(ALL_CALLS))
        self.assertEqual(answers([3]), [3, 0, 1, 0])
        self.assertEqual(answers(list(ALL_CALLS)), first)

    def test_what_is_given_back_may_be_changed(self):
        first = answers(list(ALL_CALLS))
        told = list(first)
        first.clear()
        self.assertEqual(answers(list(ALL_CALLS)), told)

    def test_it_prints_nothing(self):
        out, err = io.StringIO(), io.StringIO()
        with contextlib.redirect_stdout(out), contextlib.redirect_stderr(err):
            answers(list(ALL_CALLS))
        self.assertEqual(out.getvalue() + err.getvalue(), "")


if __name__ == "__main__":
    unittest.main()
