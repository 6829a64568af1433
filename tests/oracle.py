"""A second way to the same answers, slow and apart from the program, for the tests alone.

Places are judged by eliminating number after number from the conditions; ways by determinants.
"""
from fractions import Fraction
from itertools import combinations
from math import gcd


def tightest(rows):
    """The rows in lowest terms, of those with the same numbers a only the tightest."""
    kept = {}
    for row in rows:
        common = gcd(*row[:-1])
        key = tuple(number // common for number in row[:-1]) if common else tuple(row[:-1])
        bound = Fraction(row[-1], common) if common else Fraction(row[-1])
        if key not in kept or bound < kept[key]:
            kept[key] = bound
    return [[number * bound.denominator for number in key] + [bound.numerator] for key, bound in kept.items()]


def without_first(rows):
    """What the conditions say of the numbers behind the first one."""
    above = [row for row in rows if row[0] > 0]
    below = [row for row in rows if row[0] < 0]
    left = [row[1:] for row in rows if row[0] == 0]
    for high in above:
        for low in below:
            left.append([high[0] * b - low[0] * a for a, b in zip(high[1:], low[1:])])
    return tightest(left)


def extent(n, direction, conditions):
    """None if there's no place, else the least and the most of the direction, None for no end."""
    rows = [list(row[:n]) + [0, row[n]] for row in conditions]
    rows.append([-number for number in direction] + [1, 0])
    rows.append(list(direction) + [-1, 0])
    rows = tightest(rows)
    for turn in range(n):
        rows = without_first(rows)
    if any(row[0] == 0 and row[1] < 0 for row in rows):
        return None
    highs = [Fraction(row[1], row[0]) for row in rows if row[0] > 0]
    lows = [Fraction(row[1], row[0]) for row in rows if row[0] < 0]
    least = max(lows) if lows else None
    greatest = min(highs) if highs else None
    if least is not None and greatest is not None and least > greatest:
        return None
    return least, greatest


def determinant(table):
    if not table:
        return 1
    total = 0
    for k, number in enumerate(table[0]):
        smaller = [row[:k] + row[k + 1:] for row in table[1:]]
        total += (-1) ** k * number * determinant(smaller)
    return total


def product(first, second):
    return sum(a * b for a, b in zip(first, second))


def parts_making(columns, target):
    """The parts of independent columns that make the target, all above 0, or None."""
    gram = [[product(a, b) for b in columns] for a in columns]
    whole = determinant(gram)
    if whole == 0:
        return None
    sides = [product(a, target) for a in columns]
    parts = []
    for k in range(len(columns)):
        swapped = [row[:k] + [side] + row[k + 1:] for row, side in zip(gram, sides)]
        parts.append(Fraction(determinant(swapped), whole))
    for k, number in enumerate(target):
        if sum(part * column[k] for part, column in zip(parts, columns)) != number:
            return None
    return parts if all(part > 0 for part in parts) else None


def ways(columns, target, fewest, most):
    """All ways in order: pairs of the conditions' numbers and their parts."""
    for size in range(fewest, most + 1):
        for chosen in combinations(range(len(columns)), size):
            parts = parts_making([columns[k] for k in chosen], target)
            if parts is not None:
                yield chosen, parts


def told(value):
    return [value.numerator, value.denominator]


def told_parts(way):
    chosen, parts = way
    numbers = [len(chosen)]
    for k, part in zip(chosen, parts):
        numbers += [k] + told(part)
    return numbers


def best_ways(n, direction, conditions, greatest):
    columns = [row[:n] for row in conditions]
    for way in ways(columns, direction, 0, n):
        if sum(conditions[k][n] * part for k, part in zip(*way)) == greatest:
            yield way


def first_nonsense(n, conditions):
    return told_parts(next(ways(conditions, [0] * n + [-1], 1, n + 1)))


def most(n, direction, conditions):
    found = extent(n, direction, conditions)
    if found is None:
        return [0] + first_nonsense(n, conditions)
    if found[1] is None:
        return [1]
    greatest = Fraction(found[1])
    return [2] + told(greatest) + told_parts(next(best_ways(n, direction, conditions, greatest)))


def fixed(direction, value):
    """Two conditions: the direction times a place is just the value."""
    row = [number * value.denominator for number in direction] + [value.numerator]
    return [row, [-number for number in row]]


def axes(n):
    return [[int(k == j) for j in range(n)] for k in range(n)]


def greatest_numbers(n, rows):
    """Of the places within the one that is greatest, number by number; None if one number goes on without end."""
    numbers = []
    for axis in axes(n):
        greatest = extent(n, axis, rows)[1]
        if greatest is None:
            return None
        numbers += told(Fraction(greatest))
        rows = rows + fixed(axis, Fraction(greatest))
    return numbers


def place(n, direction, conditions):
    found = extent(n, direction, conditions)
    if found is None:
        return [-6]
    if found[1] is None:
        return [-7]
    best = conditions + fixed(direction, Fraction(found[1]))
    extents = [extent(n, axis, best) for axis in axes(n)]
    only = all(least is not None and least == greatest for least, greatest in extents)
    numbers = greatest_numbers(n, best)
    return [0] if numbers is None else [2 if only else 1] + numbers


def within(n, conditions):
    if extent(n, [0] * n, conditions) is None:
        return [0] + first_nonsense(n, conditions)
    numbers = greatest_numbers(n, conditions)
    return [1] if numbers is None else [2] + numbers


def slopes(n, condition, direction, conditions):
    found = extent(n, direction, conditions)
    if found is None:
        return [-6]
    if found[1] is None:
        return [-7]
    best = best_ways(n, direction, conditions, found[1])
    parts = [dict(zip(*way)).get(condition, Fraction(0)) for way in best]
    return told(min(parts)) + told(max(parts))


def needed(n, direction, conditions):
    found = extent(n, direction, conditions)
    if found is None:
        return [-6]
    if found[1] is None:
        return [-7]
    numbers = []
    for k in range(len(conditions)):
        left = extent(n, direction, conditions[:k] + conditions[k + 1:])
        if left[1] != found[1]:
            numbers.append(k)
    return [len(numbers)] + numbers


def slope_of_bound(n, condition, direction, conditions, sign):
    """By how much the most goes along with a bound that is moved by next to nothing; None if no place is left."""
    # All bounds are made greater by far, so that a step of 1 is less than any two ways may differ by.
    scale = 10 ** 40
    scaled = [row[:n] + [row[n] * scale] for row in conditions]
    moved = [list(row) for row in scaled]
    moved[condition][n] += sign
    after = extent(n, direction, moved)
    if after is None:
        return None
    return told(sign * Fraction(after[1] - extent(n, direction, scaled)[1]))


def solution(rows, sides):
    """The numbers that solve as many equations, or None where they aren't told by them."""
    whole = determinant(rows)
    if whole == 0:
        return None
    columns = list(zip(*rows))
    numbers = []
    for k in range(len(rows)):
        swapped = columns[:k] + [tuple(sides)] + columns[k + 1:]
        numbers.append(Fraction(determinant(swapped), whole))
    return numbers


def corner_parts(table):
    """All parts for the rows at which so many columns come to the same, or parts are 0, that nothing else fits."""
    count = len(table)
    columns = list(zip(*table))
    ties = [[a - b for a, b in zip(*pair)] for pair in combinations(columns, 2)]
    for chosen in combinations(ties + axes(count), count - 1):
        parts = solution([[1] * count] + list(chosen), [1] + [0] * (count - 1))
        if parts is not None and min(parts) >= 0:
            yield parts


def worth_of_parts(table, parts):
    return min(product(column, parts) for column in zip(*table))


def game(table):
    best = max([worth_of_parts(table, parts)] + parts for parts in corner_parts(table))
    return [number for value in best for number in told(value)]


def cost(table):
    """The least that the other one need pay, whatever row is chosen."""
    turned = [[-number for number in column] for column in zip(*table)]
    return -max(worth_of_parts(turned, parts) for parts in corner_parts(turned))
