"""The document's words reckoned once more, by recursion and Python's own library, to compare with."""

import math
from itertools import combinations

WRITTEN = {
    0: lambda a, b: a + b,
    1: lambda a, b: b - a,
    2: lambda a, b: a * b,
    3: lambda a, b: (a + b) + (a * b),
    4: math.gcd,
    5: math.lcm,
    6: lambda a, b: b,
    7: lambda a, b: a,
    8: lambda a, b: (a + b) >> 1,
    9: lambda a, b: 0 if a == b == 0 else a + b - 1,
}


def lasts(rule, numbers):
    if len(numbers) == 1:
        return set(numbers)
    found = set()
    for i, j in combinations(range(len(numbers)), 2):
        others = [number for place, number in enumerate(numbers) if place not in (i, j)]
        a, b = sorted((numbers[i], numbers[j]))
        found |= lasts(rule, others + [WRITTEN[rule](a, b)])
    return found


def lasts_answer(rule, numbers):
    found = sorted(lasts(rule, list(numbers)))
    return [len(found)] + found
