"""What the tests share: calls written out as the interface tells, and answers taken apart again."""

from wipeboard.board import answers

# The greatest number that is handed in.
GREATEST = 4294967295


def board(rule, numbers):
    return [0, rule, len(numbers)] + list(numbers)


def rule(number):
    return [1, number]


def wipe(i, j):
    return [2, i, j]


SHOWS = [3]
LASTS = [5]
SURE = [9]

# So many calls one list has at most, and so many of lasts, ways, how, which, sure and rests together.
MOST_CALLS = 40
MOST_QUESTIONS = 8


def write(x):
    return [4, x]


def ways(x):
    return [6, x]


def how(x):
    return [7, x]


def which(k):
    return [8, k]


def rests(m):
    return [10, m]


def joined(*calls):
    return [number for call in calls for number in call]


def taken_apart(told):
    """The answers, one list each."""
    found = []
    at = 0
    while at < len(told):
        end = at + 1 + told[at]
        if told[at] < 1 or end > len(told):
            raise ValueError("a count is not that of its answer")
        found.append(told[at + 1:end])
        at = end
    return found


def asked(*calls):
    """The answers of these calls on a new board, one list each."""
    if len(calls) > MOST_CALLS or sum(call[0] >= LASTS[0] for call in calls) > MOST_QUESTIONS:
        raise ValueError("no such list is handed in")
    return taken_apart(answers(joined(*calls)))


def last_asked(*calls):
    return asked(*calls)[-1]


def questions_asked(before, questions):
    """The answers of the questions, each on the board that the calls before make, some lists of calls long."""
    found = []
    for start in range(0, len(questions), MOST_QUESTIONS):
        some = questions[start:start + MOST_QUESTIONS]
        found += asked(*before, *some)[len(before):]
    return found
