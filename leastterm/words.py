"""The operations, each on whole rows of words: what comes at each place of the rows.

size is how many words there are; rows holds one row for each term behind the operation.
"""


def invert(size, rows):
    return [size - 1 - a for a in rows[0]]


def negate(size, rows):
    return [(size - a) % size for a in rows[0]]


def double(size, rows):
    return [2 * a % size for a in rows[0]]


def halve(size, rows):
    return [a // 2 for a in rows[0]]


def conjoin(size, rows):
    return [a & b for a, b in zip(rows[0], rows[1])]


def disjoin(size, rows):
    return [a | b for a, b in zip(rows[0], rows[1])]


def differ(size, rows):
    return [a ^ b for a, b in zip(rows[0], rows[1])]


def add(size, rows):
    return [(a + b) % size for a, b in zip(rows[0], rows[1])]


def subtract(size, rows):
    return [(a - b) % size for a, b in zip(rows[0], rows[1])]


def multiply(size, rows):
    return [a * b % size for a, b in zip(rows[0], rows[1])]


def less(size, rows):
    return [1 if a < b else 0 for a, b in zip(rows[0], rows[1])]


def pick(size, rows):
    return [b if a != 0 else c for a, b, c in zip(rows[0], rows[1], rows[2])]


# Both stand in the order of the operations' numbers.
ARITIES = (1, 1, 1, 1, 2, 2, 2, 2, 2, 2, 2, 3)
MAKERS = (invert, negate, double, halve, conjoin, disjoin, differ, add, subtract, multiply, less, pick)


def operate(operation, size, rows):
    """The row that the operation makes of the rows; a tuple, so that a dict can hold it as a key."""
    make = MAKERS[operation]
    return tuple(make(size, rows))


def all_rows(size, inputs):
    """Every row of inputs, in the order of the first input, then of the second."""
    rows = [()]
    for place in range(inputs):
        longer = []
        for row in rows:
            longer.extend([row + (word,) for word in range(size)])
        rows = longer
    return rows
