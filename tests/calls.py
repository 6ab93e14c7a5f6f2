"""What the tests share: calls written out as the interface tells, and answers taken apart again."""

from wipeboard.board import answers

# The greatest number that is handed in.
GREATEST = 4294967295


def board(rule, numbers):
    return [0, rule, len(numbers)] + list(numbers)


def rule(number):
    return [1, number]


def wipe(i, j):
    return [2, i, j]


SHOWS = [3]
LASTS = [5]


def write(x):
    return [4, x]


def joined(*calls):
    return [number for call in calls for number in call]


def taken_apart(told):
    """The answers, one list each."""
    found = []
    at = 0
    while at < len(told):
        end = at + 1 + told[at]
        if told[at] < 1 or end > len(told):
            raise ValueError("a count is not that of its answer")
        found.append(told[at + 1:end])
        at = end
    return found


def asked(*calls):
    """The answers of these calls on a new board, one list each."""
    return taken_apart(answers(joined(*calls)))


def last_asked(*calls):
    return asked(*calls)[-1]
