"""The calls on one board, and what each of them answers."""

LAST_RULE = 9
MOST_NUMBERS = 6
GREATEST_NUMBER = 1000
GREATEST_DIVISOR = 100

CALL_BOARD = 0
CALL_RULE = 1
CALL_WIPE = 2
CALL_SHOWS = 3
CALL_WRITE = 4
CALL_LASTS = 5
CALL_WAYS = 6
CALL_HOW = 7
CALL_WHICH = 8
CALL_SURE = 9

# By the call's number: how many whole numbers follow it, a row's count among them, the row itself not.
FOLLOWING = (2, 1, 2, 0, 1, 0, 1, 1, 1, 0, 1)


def greatest_common_divisor(a, b):
    while a > 0:
        rest = b % a
        b = a
        a = rest
    return b


def least_common_multiple(a, b):
    # Of two zeros the divisor is 0 too, so it must not come to the division.
    if a == 0:
        return 0
    return a // greatest_common_divisor(a, b) * b


def written_for(rule, a, b):
    """What the rule writes for a and b, a no greater than b."""
    if rule == 0:
        return a + b
    if rule == 1:
        return b - a
    if rule == 2:
        return a * b
    if rule == 3:
        return a + b + a * b
    if rule == 4:
        return greatest_common_divisor(a, b)
    if rule == 5:
        return least_common_multiple(a, b)
    if rule == 6:
        return b
    if rule == 7:
        return a
    if rule == 8:
        return (a + b) // 2
    return max(a + b - 1, 0)


def rising(numbers):
    return tuple(sorted(numbers))


def steps_in_order(size):
    """The steps that a board of so many numbers has, by the first place, then by the second."""
    steps = []
    for i in range(size):
        for j in range(i + 1, size):
            steps.append((i, j))
    return steps


def after_step(rule, numbers, i, j):
    """The numbers behind the step that wipes out those at the places i and j, i below j."""
    others = numbers[:i] + numbers[i + 1:j] + numbers[j + 1:]
    return rising(others + (written_for(rule, numbers[i], numbers[j]),))


def boards_a_step_on(rule, boards):
    """The different boards that one step makes of these; with each board, how many ways lead to it."""
    found = {}
    for numbers, ways in boards.items():
        for i, j in steps_in_order(len(numbers)):
            behind = after_step(rule, numbers, i, j)
            found[behind] = found.get(behind, 0) + ways
    return found


def ways_by_last(rule, numbers):
    """Each number that can be the last, with in how many ways it is."""
    # Ways that come to the same board go on alike: counted together they are far fewer than one by one.
    boards = {numbers: 1}
    for size in range(len(numbers), 1, -1):
        boards = boards_a_step_on(rule, boards)
    found = {}
    for left, ways in boards.items():
        found[left[0]] = ways
    return found


def ways_all_together(size):
    """How many ways a board of so many numbers has; they are as many under every rule."""
    product = 1
    for left in range(size, 1, -1):
        product = product * len(steps_in_order(left))
    return product


def last_by_way(rule, numbers, k):
    """The last number by the k-th of all ways, which must be there."""
    while len(numbers) > 1:
        # Behind each step there are as many ways, so the ways in order fall into parts that are alike long.
        behind_each = ways_all_together(len(numbers) - 1)
        step = steps_in_order(len(numbers))[k // behind_each]
        k = k % behind_each
        numbers = after_step(rule, numbers, step[0], step[1])
    return numbers[0]


def first_step_to(rule, numbers, last):
    """The first step behind which that number can still be the last, or None."""
    for i, j in steps_in_order(len(numbers)):
        if last in ways_by_last(rule, after_step(rule, numbers, i, j)):
            return (i, j)
    return None


def first_way_to(rule, numbers, last):
    """The steps of the first way to that number, which must be one that can be the last."""
    steps = []
    while len(numbers) > 1:
        step = first_step_to(rule, numbers, last)
        steps.append(step)
        numbers = after_step(rule, numbers, step[0], step[1])
    return steps


class Board:
    """The numbers, rising, and the rule; each method answers one call, by the list of its numbers."""

    def __init__(self):
        self.rule = 0
        self.numbers = (0,)

    def answer_board(self, rule, numbers):
        if rule > LAST_RULE or not 1 <= len(numbers) <= MOST_NUMBERS or max(numbers) > GREATEST_NUMBER:
            return [-1]
        self.rule = rule
        self.numbers = rising(numbers)
        return [len(numbers)]

    def answer_rule(self, rule):
        if rule > LAST_RULE:
            return [-1]
        self.rule = rule
        return [0]

    def answer_wipe(self, i, j):
        if max(i, j) >= len(self.numbers):
            return [-2]
        if i >= j:
            return [-1]
        written = written_for(self.rule, self.numbers[i], self.numbers[j])
        self.numbers = after_step(self.rule, self.numbers, i, j)
        return [written] + list(self.numbers)

    def answer_shows(self):
        return [self.rule, len(self.numbers)] + list(self.numbers)

    def answer_write(self, x):
        if x > GREATEST_NUMBER:
            return [-1]
        if len(self.numbers) == MOST_NUMBERS:
            return [-5]
        self.numbers = rising(self.numbers + (x,))
        return [len(self.numbers)]

    def answer_lasts(self):
        lasts = sorted(ways_by_last(self.rule, self.numbers))
        return [len(lasts)] + lasts

    def answer_ways(self, x):
        found = ways_by_last(self.rule, self.numbers)
        return [found.get(x, 0), ways_all_together(len(self.numbers))]

    def answer_how(self, x):
        if x not in ways_by_last(self.rule, self.numbers):
            return [-6]
        steps = first_way_to(self.rule, self.numbers, x)
        answer = [len(steps)]
        for step in steps:
            answer.extend(step)
        return answer

    def answer_which(self, k):
        if k >= ways_all_together(len(self.numbers)):
            return [-3]
        return [last_by_way(self.rule, self.numbers, k)]

    def answer_sure(self):
        lasts = sorted(ways_by_last(self.rule, self.numbers))
        if len(lasts) == 1:
            return [1, lasts[0]]
        return [0, lasts[0], lasts[-1]]

    def answer_rests(self, m):
        if not 1 <= m <= GREATEST_DIVISOR:
            return [-1]
        rests = sorted(set([last % m for last in ways_by_last(self.rule, self.numbers)]))
        return [len(rests)] + rests


def end_of_call(calls, start):
    """Where the call that begins at start ends: the place behind its last number."""
    end = start + 1 + FOLLOWING[calls[start]]
    if calls[start] == CALL_BOARD:
        return end + calls[end - 1]
    return end


def answer_of(board, call):
    """The answer of one call: its number, and what is handed in with it, in one list."""
    if call[0] == CALL_BOARD:
        return board.answer_board(call[1], call[3:])
    if call[0] == CALL_RULE:
        return board.answer_rule(call[1])
    if call[0] == CALL_WIPE:
        return board.answer_wipe(call[1], call[2])
    if call[0] == CALL_SHOWS:
        return board.answer_shows()
    if call[0] == CALL_WRITE:
        return board.answer_write(call[1])
    if call[0] == CALL_LASTS:
        return board.answer_lasts()
    if call[0] == CALL_WAYS:
        return board.answer_ways(call[1])
    if call[0] == CALL_HOW:
        return board.answer_how(call[1])
    if call[0] == CALL_WHICH:
        return board.answer_which(call[1])
    if call[0] == CALL_SURE:
        return board.answer_sure()
    # Only rests is left: a call that isn't there has been stopped where its end was sought.
    return board.answer_rests(call[1])


def answers(calls):
    """The answers of all calls on a new board, each with how many numbers it has before it."""
    board = Board()
    told = []
    start = 0
    while start < len(calls):
        end = end_of_call(calls, start)
        answer = answer_of(board, calls[start:end])
        told.append(len(answer))
        told.extend(answer)
        start = end
    return told
