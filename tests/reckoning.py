"""The document's words reckoned once more, by recursion and Python's own library, to compare with."""

import math
from itertools import combinations

WRITTEN = {
    0: lambda a, b: a + b,
    1: lambda a, b: b - a,
    2: lambda a, b: a * b,
    3: lambda a, b: (a + b) + (a * b),
    4: math.gcd,
    5: math.lcm,
    6: lambda a, b: b,
    7: lambda a, b: a,
    8: lambda a, b: (a + b) >> 1,
    9: lambda a, b: 0 if a == b == 0 else a + b - 1,
}


def lasts(rule, numbers):
    if len(numbers) == 1:
        return set(numbers)
    found = set()
    for i, j in combinations(range(len(numbers)), 2):
        others = [number for place, number in enumerate(numbers) if place not in (i, j)]
        a, b = sorted((numbers[i], numbers[j]))
        found |= lasts(rule, others + [WRITTEN[rule](a, b)])
    return found


def lasts_answer(rule, numbers):
    found = sorted(lasts(rule, list(numbers)))
    return [len(found)] + found


def all_ways(rule, numbers):
    """Each way, in order: its steps, as pairs of places, and its last number."""
    numbers = sorted(numbers)
    if len(numbers) == 1:
        return [((), numbers[0])]
    found = []
    for i, j in combinations(range(len(numbers)), 2):
        others = [number for place, number in enumerate(numbers) if place not in (i, j)]
        written = WRITTEN[rule](numbers[i], numbers[j])
        for steps, last in all_ways(rule, others + [written]):
            found.append((((i, j),) + steps, last))
    # Rows of pairs are sorted by the first pair that differs, and pairs by i, then by j: the document's order.
    return sorted(found)


def how_answers(rule, numbers):
    """By each number that can be the last: what how answers of it."""
    found = {}
    for steps, last in all_ways(rule, numbers):
        if last not in found:
            found[last] = [len(steps)] + [place for step in steps for place in step]
    return found


def ways_answer(rule, numbers, x):
    lasts_in_order = [last for steps, last in all_ways(rule, numbers)]
    return [lasts_in_order.count(x), len(lasts_in_order)]


def sure_answer(rule, numbers):
    found = sorted(lasts(rule, list(numbers)))
    return [1] + found if len(found) == 1 else [0, found[0], found[-1]]


def rests_answer(rule, numbers, m):
    found = sorted({last % m for last in lasts(rule, list(numbers))})
    return [len(found)] + found


def wiped(rule, numbers, i, j):
    if i >= len(numbers) or j >= len(numbers):
        return [-2], numbers
    if i >= j:
        return [-1], numbers
    written = WRITTEN[rule](numbers[i], numbers[j])
    after = sorted(numbers[:i] + numbers[i + 1:j] + numbers[j + 1:] + [written])
    return [written] + after, after


def question_answer(rule, numbers, call):
    if call[0] == 5:
        return lasts_answer(rule, numbers)
    if call[0] == 6:
        return ways_answer(rule, numbers, call[1])
    if call[0] == 7:
        return how_answers(rule, numbers).get(call[1], [-6])
    if call[0] == 8:
        ways = all_ways(rule, numbers)
        return [ways[call[1]][1]] if call[1] < len(ways) else [-3]
    if call[0] == 9:
        return sure_answer(rule, numbers)
    return rests_answer(rule, numbers, call[1]) if call[1] in range(1, 101) else [-1]


def call_answer(rule, numbers, call):
    """The answer of a call, and the rule and the numbers behind it."""
    if call[0] == 0:
        row = call[3:]
        if call[1] > 9 or len(row) not in range(1, 7) or any(number > 1000 for number in row):
            return [-1], rule, numbers
        return [len(row)], call[1], sorted(row)
    if call[0] == 1:
        return ([0], call[1], numbers) if call[1] < 10 else ([-1], rule, numbers)
    if call[0] == 2:
        answer, after = wiped(rule, numbers, call[1], call[2])
        return answer, rule, after
    if call[0] == 3:
        return [rule, len(numbers)] + numbers, rule, numbers
    if call[0] == 4:
        if call[1] > 1000 or len(numbers) == 6:
            return [-1 if call[1] > 1000 else -5], rule, numbers
        return [len(numbers) + 1], rule, sorted(numbers + [call[1]])
    return question_answer(rule, numbers, call), rule, numbers


def all_answers(*calls):
    """The answers of the calls, one list each, of calls that are one list each."""
    rule, numbers = 0, [0]
    found = []
    for call in calls:
        answer, rule, numbers = call_answer(rule, numbers, call)
        found.append(answer)
    return found
