"""Boards that several tests go through: of 1 to 6 numbers, alike ones, zeros and great ones among them."""

from calls import board, rule, wipe, write

BOARDS = [
    [0], [1], [1000],
    [0, 0], [0, 9], [4, 6], [5, 5],
    [0, 0, 4], [1, 2, 3], [6, 10, 15], [7, 7, 2],
    [0, 0, 0, 0], [0, 1, 1, 3], [4, 6, 9, 10], [1000, 1000, 999, 1],
    [1, 2, 3, 4, 5], [0, 0, 8, 8, 8], [3, 1, 4, 1, 5], [12, 18, 20, 30, 45],
    [1, 2, 3, 4, 5, 6], [0, 0, 0, 5, 5, 9], [2, 2, 2, 2, 2, 2], [1000, 1, 729, 64, 500, 0],
    [1000, 1000, 1000, 1000, 1000, 1000], [991, 997, 983, 977, 971, 967],
]

# Calls that change a board again and again, and the numbers that stand on it then; the rule is left to the test.
GROWN = [
    # Above 1000, still below the greatest number that is handed in.
    ([board(0, [1000, 999, 7, 4]), wipe(2, 3)], [4, 7, 1999]),
    # Above the greatest number that is handed in.
    ([board(2, [1000, 1000, 1000, 1000, 3, 2]), wipe(4, 5), wipe(3, 4), wipe(2, 3), write(5)],
     [2, 3, 5, 1000 ** 4]),
    ([board(3, [1000] * 6), wipe(0, 1), wipe(0, 1), wipe(0, 1)], [1001 ** 2 - 1, 1001 ** 2 - 1, 1001 ** 2 - 1]),
    ([board(2, [1000] * 6), wipe(0, 1), wipe(0, 1), wipe(0, 1), rule(0), wipe(0, 2), write(9), write(0), write(9)],
     [0, 9, 9, 10 ** 6, 2 * 10 ** 6]),
    ([write(3), write(1000), wipe(1, 2), write(8)], [0, 8, 1003]),
]
