"""Questions for the tests, many of a kind, the same at every run."""


class Numbers:
    """Numbers that look mixed, from a rule."""

    def __init__(self, start):
        self.state = start

    def between(self, low, high):
        self.state = (self.state * 6364136223846793005 + 1442695040888963407) % 2 ** 64
        return low + (self.state >> 33) % (high - low + 1)


def question(numbers, n, count, size, bound):
    """A question with count conditions; some stand twice, some have all numbers a 0."""
    conditions = []
    for k in range(count):
        kind = numbers.between(0, 9)
        if kind == 0 and conditions:
            conditions.append(list(conditions[numbers.between(0, k - 1)]))
        elif kind == 1:
            conditions.append([0] * n + [numbers.between(-1, bound)])
        else:
            conditions.append([numbers.between(-size, size) for j in range(n)] + [numbers.between(-bound // 3, bound)])
    direction = [numbers.between(-size, size) for j in range(n)]
    kind = numbers.between(0, 9)
    if kind == 0:
        direction = [0] * n
    elif kind == 1 and conditions:
        direction = list(conditions[0][:n])
    return n, direction, conditions


def questions(start, amount, most_conditions, size, bound):
    numbers = Numbers(start)
    for k in range(amount):
        n = 1 + k % 3
        yield question(numbers, n, numbers.between(0, most_conditions), size, bound)


def boxed_questions(start, amount, size, bound):
    """Questions with a box's conditions ahead, so that there's mostly an answer."""
    numbers = Numbers(start)
    for k in range(amount):
        n = 1 + k % 3
        asked = question(numbers, n, numbers.between(0, 8 - 2 * n), size, bound)
        box = []
        for j in range(n):
            for sign in (1, -1):
                box.append([sign * (i == j) for i in range(n)] + [numbers.between(0, bound)])
        yield n, asked[1], box + asked[2]


def tables(start, amount, size):
    """Tables of games, of every allowed count of rows and of columns; some rows and columns stand twice."""
    numbers = Numbers(start)
    for k in range(amount):
        rows = 2 + k % 2
        columns = 1 + k // 2 % 4
        table = [[numbers.between(-size, size) for j in range(columns)] for i in range(rows)]
        kind = numbers.between(0, 7)
        if kind == 0:
            table[-1] = list(table[0])
        elif kind == 1:
            for row in table:
                row[-1] = row[0]
        yield table
