"""Linear questions over one to three numbers: each answer comes with what proves it.

A condition is a list: the numbers a and behind them the bound b.
A fraction is a list: what's above, what's below, with nothing in common, what's below above 0.
A way is a list of steps, each a condition's number and behind it the condition's part, a fraction.
"""

MOST_NUMBERS = 3
MOST_CONDITIONS = 8
NUMBER_LIMIT = 100
BOUND_LIMIT = 10000
FEWEST_ROWS = 2
MOST_ROWS = 3
MOST_COLUMNS = 4


def most(n, direction, conditions):
    """0 and the parts that tell that there's no place; 1 if it goes on without end; 2, the most, the prices."""
    refused = refusal(n, direction, conditions)
    if refused < 0:
        return [refused]
    nonsense = no_place(n, conditions)
    if nonsense is not None:
        return [0] + told_parts(nonsense)
    prices = cheapest_way(direction, conditions)
    if prices is None:
        return [1]
    return [2] + worth(prices, conditions) + told_parts(prices)


def place(n, direction, conditions):
    """2 (just one best place) or 1, and the best place that is greatest; 0 if that goes on without end."""
    refused = refusal_with_most(n, direction, conditions)
    if refused < 0:
        return [refused]
    # No place within has more than the most, so those that have at least as much are the best ones.
    best = conditions + [at_least(direction, highest(direction, conditions))]
    numbers = greatest_place(n, best)
    if numbers is None:
        return [0]
    kind = 2 if is_least_place(n, best, numbers) else 1
    return [kind] + joined(numbers)


def slopes(n, condition, direction, conditions):
    """The least and the greatest part of the condition in the ways to make the direction that are worth the most."""
    if condition >= len(conditions):
        return [-4]
    refused = refusal_with_most(n, direction, conditions)
    if refused < 0:
        return [refused]
    parts = [part_in(way, condition) for way in best_ways(direction, conditions)]
    return least_and_greatest(parts)


def needed(n, direction, conditions):
    """How many conditions there are without which alone the most isn't that, then their numbers, rising."""
    refused = refusal_with_most(n, direction, conditions)
    if refused < 0:
        return [refused]
    greatest = highest(direction, conditions)
    found = []
    for k in range(len(conditions)):
        # All places within stay so without a condition: the most is this one or another, or it goes on without end.
        if highest(direction, conditions[:k] + conditions[k + 1:]) != greatest:
            found.append(k)
    return [len(found)] + found


def within(n, conditions):
    """0 and the parts that tell that there's no place; 2 and the greatest place; 1 if that goes on without end."""
    refused = refusal_of_conditions(n, conditions)
    if refused < 0:
        return [refused]
    nonsense = no_place(n, conditions)
    if nonsense is not None:
        return [0] + told_parts(nonsense)
    numbers = greatest_place(n, conditions)
    if numbers is None:
        return [1]
    return [2] + joined(numbers)


def game(table):
    """The game's worth, then the best parts for the rows."""
    refused = refusal_of_table(table)
    if refused < 0:
        return [refused]
    numbers = greatest_place(len(table), game_conditions(table))
    return joined(numbers) + rest_of_one(numbers[1:])


def refusal_of_conditions(n, conditions):
    """The refusal of n and the conditions that is told first, or 0 where nothing is refused."""
    if n < 1 or n > MOST_NUMBERS:
        return -3
    if len(conditions) > MOST_CONDITIONS:
        return -2
    for condition in conditions:
        if not is_condition(n, condition):
            return -1
    return 0


def refusal(n, direction, conditions):
    """The refusal that is told first, or 0 where nothing is refused."""
    refused = refusal_of_conditions(n, conditions)
    if refused < 0:
        return refused
    if not are_numbers(n, direction):
        return -4
    return 0


def refusal_with_most(n, direction, conditions):
    """The refusal that is told first where there has to be a most, or 0 where nothing is refused."""
    refused = refusal(n, direction, conditions)
    if refused < 0:
        return refused
    if no_place(n, conditions) is not None:
        return -6
    if highest(direction, conditions) is None:
        return -7
    return 0


def refusal_of_table(table):
    """The refusal that is told first of a game's table, or 0 where nothing is refused."""
    if len(table) < FEWEST_ROWS or len(table) > MOST_ROWS:
        return -2
    columns = len(table[0])
    if columns < 1 or columns > MOST_COLUMNS:
        return -2
    if not all([are_numbers(columns, row) for row in table]):
        return -1
    return 0


def is_condition(n, condition):
    if len(condition) != n + 1:
        return False
    return are_numbers(n, condition[:n]) and abs(condition[n]) <= BOUND_LIMIT


def are_numbers(count, numbers):
    """Whether there are so many numbers, each within the limit."""
    if len(numbers) != count:
        return False
    return all([abs(number) <= NUMBER_LIMIT for number in numbers])


def no_place(n, conditions):
    """The first way to make nonsense of the conditions, or None where there's a place within."""
    # The bounds are made as well as the numbers a: all of these 0, but the bounds come to -1.
    target = [0] * n + [-1]
    for chosen in choices(len(conditions), n + 1):
        way = way_to_make(target, conditions, chosen)
        if way is not None:
            return way
    return None


def ways_to_make(direction, conditions):
    """All ways to make the direction, in order."""
    tried = [way_to_make(direction, conditions, chosen) for chosen in choices(len(conditions), len(direction))]
    return [way for way in tried if way is not None]


def cheapest_way(direction, conditions):
    """The first of the ways to make the direction whose worth is least, or None where there's no way."""
    best = None
    for way in ways_to_make(direction, conditions):
        if best is None or is_below(worth(way, conditions), worth(best, conditions)):
            best = way
    return best


def highest(direction, conditions):
    """The most of the direction, or None if it goes on without end; there must be a place within."""
    way = cheapest_way(direction, conditions)
    if way is None:
        return None
    return worth(way, conditions)


def best_ways(direction, conditions):
    """All ways to make the direction whose worth is the most."""
    greatest = highest(direction, conditions)
    return [way for way in ways_to_make(direction, conditions) if worth(way, conditions) == greatest]


def part_in(way, condition):
    """The condition's part in the way, 0 where it's not among the way's conditions."""
    for step in way:
        if step[0] == condition:
            return step[1:]
    return [0, 1]


def at_least(direction, value):
    """The condition that the direction times a place isn't below the value."""
    return [-value[1] * number for number in direction] + [-value[0]]


def greatest_place(n, conditions):
    """The place within whose first number is greatest, then its second, and so on; None if one has no end."""
    narrowed = list(conditions)
    numbers = []
    for k in range(n):
        axis = axis_of(n, k, 1)
        value = highest(axis, narrowed)
        if value is None:
            return None
        numbers.append(value)
        narrowed.append(at_least(axis, value))
    return numbers


def is_least_place(n, conditions, numbers):
    """Whether no place within has any number below the one given: beside the greatest place there's none then."""
    for k in range(n):
        value = highest(axis_of(n, k, -1), conditions)
        if value is None or value != [-numbers[k][0], numbers[k][1]]:
            return False
    return True


def game_conditions(table):
    """What allows just the parts for the rows, with whatever isn't above their worth ahead of them."""
    # The last row's part is what the others leave of 1, so it is no number of the place.
    count = len(table)
    conditions = [column_condition(table, k) for k in range(len(table[0]))]
    for k in range(1, count):
        conditions.append(at_least(axis_of(count, k, 1), [0, 1]))
    conditions.append([0] + [1] * (count - 1) + [1])
    return conditions


def column_condition(table, k):
    """The condition that the place's first number isn't above what the column's numbers come to."""
    last = table[-1][k]
    return [1] + [last - row[k] for row in table[:-1]] + [last]


def axis_of(n, k, sign):
    axis = [0] * n
    axis[k] = sign
    return axis


def choices(count, size):
    """All choices of at most size of the numbers below count, in the order that ways are in."""
    found = [[]]
    longest = [[]]
    for step in range(size):
        longest = longer_choices(longest, count)
        found.extend(longest)
    return found


def longer_choices(shorter, count):
    longer = []
    for chosen in shorter:
        first = chosen[-1] + 1 if len(chosen) > 0 else 0
        for number in range(first, count):
            longer.append(chosen + [number])
    return longer


def way_to_make(target, conditions, chosen):
    """The way that the chosen conditions have to make the target, or None if they have none."""
    # A target one longer than the numbers a asks for the bounds too, as they stand behind these.
    columns = [conditions[number][:len(target)] for number in chosen]
    parts = only_parts(columns, target)
    if parts is None:
        return None
    return [[chosen[k]] + parts[k] for k in range(len(chosen))]


def only_parts(columns, target):
    """The parts, all above 0, that make the target; None if there are none or others make it too."""
    rows = [equation(columns, target, k) for k in range(len(target))]
    count = len(columns)
    for column in range(count):
        lead = lead_row(rows, column)
        if lead is None:
            return None
        rows = cleared(rows, column, lead)
    if any([row[count] != 0 for row in rows[count:]]):
        return None
    parts = [fraction(rows[k][count], rows[k][k]) for k in range(count)]
    if any([part[0] <= 0 for part in parts]):
        return None
    return parts


def equation(columns, target, k):
    return [column[k] for column in columns] + [target[k]]


def lead_row(rows, column):
    """The first row from the column's place on that isn't 0 there, or None."""
    for k in range(column, len(rows)):
        if rows[k][column] != 0:
            return k
    return None


def cleared(rows, column, lead):
    """The rows, the lead one at the column's place, with 0 in that column of all others."""
    pivot = rows[lead]
    others = [without(row, pivot, column) for row in rows[:lead] + rows[lead + 1:]]
    return others[:column] + [pivot] + others[column:]


def without(row, pivot, column):
    # Multiplied crosswise, so that all numbers stay whole.
    return [row[k] * pivot[column] - pivot[k] * row[column] for k in range(len(row))]


def worth(way, conditions):
    """The bounds, each so many times, together."""
    above = 0
    below = 1
    for step in way:
        bound = conditions[step[0]][-1]
        above = above * step[2] + bound * step[1] * below
        below = below * step[2]
    return fraction(above, below)


def told_parts(way):
    return [len(way)] + joined(way)


def joined(rows):
    numbers = []
    for row in rows:
        numbers.extend(row)
    return numbers


def fraction(above, below):
    common = common_divisor(above, below)
    if below < 0:
        common = -common
    return [above // common, below // common]


def common_divisor(first, second):
    greater = abs(first)
    lesser = abs(second)
    while lesser > 0:
        rest = greater % lesser
        greater = lesser
        lesser = rest
    return greater


def rest_of_one(parts):
    """What the parts leave of 1."""
    above = 1
    below = 1
    for part in parts:
        above = above * part[1] - part[0] * below
        below = below * part[1]
    return fraction(above, below)


def is_below(first, second):
    return first[0] * second[1] < second[0] * first[1]


def least_and_greatest(fractions):
    least = fractions[0]
    greatest = fractions[0]
    for value in fractions:
        if is_below(value, least):
            least = value
        if is_below(greatest, value):
            greatest = value
    return least + greatest
