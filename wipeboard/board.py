"""The calls on one board, and what each of them answers."""

LAST_RULE = 9
MOST_NUMBERS = 6
GREATEST_NUMBER = 1000

CALL_BOARD = 0
CALL_RULE = 1
CALL_WIPE = 2
CALL_SHOWS = 3
CALL_WRITE = 4

# By the call's number: how many whole numbers follow it, a row's count among them, the row itself not.
FOLLOWING = (2, 1, 2, 0, 1, 0)


def greatest_common_divisor(a, b):
    while a > 0:
        rest = b % a
        b = a
        a = rest
    return b


def least_common_multiple(a, b):
    # Of two zeros the divisor is 0 too, so it must not come to the division.
    if a == 0:
        return 0
    return a // greatest_common_divisor(a, b) * b


def written_for(rule, a, b):
    """What the rule writes for a and b, a no greater than b."""
    if rule == 0:
        return a + b
    if rule == 1:
        return b - a
    if rule == 2:
        return a * b
    if rule == 3:
        return a + b + a * b
    if rule == 4:
        return greatest_common_divisor(a, b)
    if rule == 5:
        return least_common_multiple(a, b)
    if rule == 6:
        return b
    if rule == 7:
        return a
    if rule == 8:
        return (a + b) // 2
    return max(a + b - 1, 0)


def rising(numbers):
    return tuple(sorted(numbers))


def steps_in_order(size):
    """The steps that a board of so many numbers has, by the first place, then by the second."""
    steps = []
    for i in range(size):
        for j in range(i + 1, size):
            steps.append((i, j))
    return steps


def after_step(rule, numbers, i, j):
    """The numbers behind the step that wipes out those at the places i and j, i below j."""
    others = numbers[:i] + numbers[i + 1:j] + numbers[j + 1:]
    return rising(others + (written_for(rule, numbers[i], numbers[j]),))


def boards_a_step_on(rule, boards):
    """The different boards that one step makes of boards that all have as many numbers."""
    steps = steps_in_order(len(boards[0]))
    found = {}
    for numbers in boards:
        for i, j in steps:
            found[after_step(rule, numbers, i, j)] = True
    return list(found)


def last_numbers(rule, numbers):
    """The different numbers that can be the last, rising."""
    boards = [numbers]
    while len(boards[0]) > 1:
        boards = boards_a_step_on(rule, boards)
    return sorted([left[0] for left in boards])


class Board:
    """The numbers, rising, and the rule; each method answers one call, by the list of its numbers."""

    def __init__(self):
        self.rule = 0
        self.numbers = (0,)

    def answer_board(self, rule, numbers):
        if rule > LAST_RULE or not 1 <= len(numbers) <= MOST_NUMBERS or max(numbers) > GREATEST_NUMBER:
            return [-1]
        self.rule = rule
        self.numbers = rising(numbers)
        return [len(numbers)]

    def answer_rule(self, rule):
        if rule > LAST_RULE:
            return [-1]
        self.rule = rule
        return [0]

    def answer_wipe(self, i, j):
        if max(i, j) >= len(self.numbers):
            return [-2]
        if i >= j:
            return [-1]
        written = written_for(self.rule, self.numbers[i], self.numbers[j])
        self.numbers = after_step(self.rule, self.numbers, i, j)
        return [written] + list(self.numbers)

    def answer_shows(self):
        return [self.rule, len(self.numbers)] + list(self.numbers)

    def answer_write(self, x):
        if x > GREATEST_NUMBER:
            return [-1]
        if len(self.numbers) == MOST_NUMBERS:
            return [-5]
        self.numbers = rising(self.numbers + (x,))
        return [len(self.numbers)]

    def answer_lasts(self):
        lasts = last_numbers(self.rule, self.numbers)
        return [len(lasts)] + lasts


def end_of_call(calls, start):
    """Where the call that begins at start ends: the place behind its last number."""
    end = start + 1 + FOLLOWING[calls[start]]
    if calls[start] == CALL_BOARD:
        return end + calls[end - 1]
    return end


def answer_of(board, call):
    """The answer of one call: its number, and what is handed in with it, in one list."""
    if call[0] == CALL_BOARD:
        return board.answer_board(call[1], call[3:])
    if call[0] == CALL_RULE:
        return board.answer_rule(call[1])
    if call[0] == CALL_WIPE:
        return board.answer_wipe(call[1], call[2])
    if call[0] == CALL_SHOWS:
        return board.answer_shows()
    if call[0] == CALL_WRITE:
        return board.answer_write(call[1])
    # Only lasts is left: a call that isn't there has been stopped where its end was sought.
    return board.answer_lasts()


def answers(calls):
    """The answers of all calls on a new board, each with how many numbers it has before it."""
    board = Board()
    told = []
    start = 0
    while start < len(calls):
        end = end_of_call(calls, start)
        answer = answer_of(board, calls[start:end])
        told.append(len(answer))
        told.extend(answer)
        start = end
    return told
