"""Promise 2: wipe, each rule and the refusals."""

import unittest
from itertools import combinations

import reckoning
from calls import GREATEST, SHOWS, asked, board, last_asked, wipe, write

# Each rule: a, b, what the document's words write for them.
WRITTEN = {
    0: [(3, 8, 11), (0, 5, 5), (0, 0, 0), (4, 4, 8), (1000, 1000, 2000)],
    1: [(3, 8, 5), (0, 5, 5), (0, 0, 0), (4, 4, 0), (1, 1000, 999)],
    2: [(3, 8, 24), (0, 5, 0), (0, 0, 0), (4, 4, 16), (1000, 1000, 1000000)],
    3: [(3, 8, 35), (0, 5, 5), (0, 0, 0), (4, 4, 24), (1000, 1000, 1002000)],
    4: [(12, 18, 6), (3, 8, 1), (0, 5, 5), (0, 0, 0), (4, 4, 4), (4, 12, 4), (1, 1000, 1), (610, 987, 1)],
    5: [(12, 18, 36), (3, 8, 24), (0, 5, 0), (0, 0, 0), (4, 4, 4), (4, 12, 12), (999, 1000, 999000)],
    6: [(3, 8, 8), (0, 5, 5), (0, 0, 0), (4, 4, 4)],
    7: [(3, 8, 3), (0, 5, 0), (0, 0, 0), (4, 4, 4)],
    8: [(3, 8, 5), (3, 9, 6), (0, 5, 2), (0, 1, 0), (0, 0, 0), (4, 4, 4), (999, 1000, 999)],
    9: [(3, 8, 10), (0, 5, 4), (0, 1, 0), (0, 0, 0), (1, 1, 1), (1000, 1000, 1999)],
}


class WhatIsWritten(unittest.TestCase):
    def test_each_rule(self):
        for rule, cases in WRITTEN.items():
            for a, b, written in cases:
                with self.subTest(rule=rule, a=a, b=b):
                    told = asked(board(rule, [b, a]), wipe(0, 1), SHOWS)
                    self.assertEqual(told, [[2], [written, written], [rule, 1, written]])

    def test_each_rule_on_all_small_pairs(self):
        for rule in range(10):
            for a in range(25):
                for b in range(a, 25):
                    written = reckoning.WRITTEN[rule](a, b)
                    self.assertEqual(last_asked(board(rule, [a, b]), wipe(0, 1)), [written, written])


class WhereItIsPut(unittest.TestCase):
    def test_at_the_end(self):
        told = asked(board(0, [1, 2, 3, 4]), wipe(0, 3), SHOWS)
        self.assertEqual(told, [[4], [5, 2, 3, 5], [0, 3, 2, 3, 5]])

    def test_at_the_beginning(self):
        told = asked(board(1, [4, 6, 8, 9]), wipe(2, 3), SHOWS)
        self.assertEqual(told, [[4], [1, 1, 4, 6], [1, 3, 1, 4, 6]])

    def test_between(self):
        told = asked(board(8, [1, 4, 6, 9]), wipe(0, 3), SHOWS)
        self.assertEqual(told, [[4], [5, 4, 5, 6], [8, 3, 4, 5, 6]])

    def test_beside_alike_ones(self):
        self.assertEqual(last_asked(board(0, [2, 3, 5, 5, 9]), wipe(0, 1)), [5, 5, 5, 5, 9])

    def test_every_step_of_a_board(self):
        numbers = [2, 3, 3, 7, 12, 30]
        for rule in range(10):
            for i, j in combinations(range(6), 2):
                written = reckoning.WRITTEN[rule](numbers[i], numbers[j])
                others = [number for place, number in enumerate(numbers) if place not in (i, j)]
                told = asked(board(rule, numbers), wipe(i, j), SHOWS)
                after = sorted(others + [written])
                self.assertEqual(told[1:], [[written] + after, [rule, 5] + after])

    def test_places_count_anew_behind_a_step(self):
        told = asked(board(0, [1, 2, 3]), wipe(0, 2), wipe(0, 1), SHOWS)
        self.assertEqual(told, [[3], [4, 2, 4], [6, 6], [0, 1, 6]])


class Refused(unittest.TestCase):
    def assert_refused(self, numbers, i, j, refusal):
        told = asked(board(2, numbers), wipe(i, j), SHOWS)
        self.assertEqual(told[1:], [[refusal], [2, len(numbers)] + sorted(numbers)], (numbers, i, j))

    def test_no_such_second_place(self):
        for j in (3, 4, GREATEST):
            self.assert_refused([5, 6, 7], 0, j, -2)
        self.assert_refused([5], 0, 1, -2)

    def test_no_such_first_place(self):
        for i in (3, 4, GREATEST):
            for j in range(3):
                self.assert_refused([5, 6, 7], i, j, -2)

    def test_neither_place(self):
        for i, j in ((3, 4), (3, 3), (4, 3), (GREATEST, GREATEST)):
            self.assert_refused([5, 6, 7], i, j, -2)

    def test_the_first_is_not_below_the_second(self):
        for i in range(3):
            for j in range(i + 1):
                self.assert_refused([5, 6, 7], i, j, -1)
        self.assert_refused([5], 0, 0, -1)

    def test_all_places_of_all_sizes(self):
        for size in range(1, 7):
            for i in range(8):
                for j in range(8):
                    if i >= size or j >= size:
                        self.assert_refused(list(range(size)), i, j, -2)
                    elif i >= j:
                        self.assert_refused(list(range(size)), i, j, -1)

    def test_at_the_beginning(self):
        self.assertEqual(asked(wipe(0, 0), wipe(0, 1), SHOWS), [[-1], [-2], [0, 1, 0]])

    def test_a_place_that_a_step_took_away(self):
        self.assertEqual(last_asked(board(0, [1, 2]), wipe(0, 1), wipe(0, 1)), [-2])
        self.assertEqual(last_asked(board(0, [1, 2]), wipe(0, 1), write(1), wipe(0, 1)), [4, 4])


if __name__ == "__main__":
    unittest.main()
