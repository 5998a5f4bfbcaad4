"""For the tests: the calls in numbers, their answers one by one, and a slow, plain model of a line."""

import itertools

from leastterm.terms import answers

ARITY = {0: 1, 1: 1, 2: 1, 3: 1, 4: 2, 5: 2, 6: 2, 7: 2, 8: 2, 9: 2, 10: 2, 11: 3}
HIGHEST = 4294967295

# Rows of numbers that are no term at the beginning, where w is 2 and k is 1, by what is wrong with each.
NO_TERMS = {
    "cut short": [[], [20], [27, 0], [31, 0, 0], [27, 27, 0, 0], [27, 20, 0], [20] * 24],
    "left over": [[0, 0], [20, 0, 0], [27, 0, 0, 0], [31, 0, 0, 0, 3], [0, 20], [3, 20, 0], [0] * 24],
    "too long": [[20] * 24 + [0], [27, 3] * 12 + [0], [20] * 25 + [0], [20] * 29 + [0]],
    "no such input": [[1], [27, 0, 1], [20, 1], [31, 0, 1, 0]],
    "no such number": [[6], [19], [27, 0, 6], [20, 17], [31, 18, 0, 0]],
    "no such operation": [[32, 0], [32, 0, 0], [32], [HIGHEST], [20, HIGHEST], [HIGHEST, 0]],
}
# The longest terms that are granted: 24 numbers.
LONGEST_TERMS = [[20] * 23 + [0], [20] + [27, 3] * 11 + [0]]


def no_terms():
    return [term for terms in NO_TERMS.values() for term in terms]


def counted(row):
    return [len(row)] + list(row)


def start(w, k):
    return [0, w, k]


def lang(numbers, operations):
    """operations: pairs of an operation's number and its cost."""
    return [1] + counted(numbers) + counted([part for pair in operations for part in pair])


def example(inputs, out):
    return [2, out] + counted(inputs)


def clear():
    return [3]


def wish(term):
    return [4] + counted(term)


def find(most):
    return [5, most]


def learn(most):
    return [6, most]


def best(most):
    return [7, most]


def check(term):
    return [8] + counted(term)


def classes(most):
    return [9, most]


def cost(term):
    return [10] + counted(term)


def value(inputs, term):
    return [11] + counted(inputs) + counted(term)


def shows():
    return [12]


def split(given):
    """The answers one by one, each without its count."""
    rows = []
    place = 0
    while place < len(given):
        end = place + 1 + given[place]
        if end > len(given):
            raise ValueError("an answer is cut short")
        rows.append(given[place + 1:end])
        place = end
    return rows


def run(*calls):
    """The answers to the calls, which are on one new line."""
    if len(calls) > 40:
        raise ValueError("a line has at most 40 calls")
    return split(answers([number for call in calls for number in call]))


def last(*calls):
    return run(*calls)[-1]


def operate(operation, w, words):
    size = 2 ** w
    a = words[0]
    b = words[1] if len(words) > 1 else None
    if operation == 11:
        return words[2] if a == 0 else b
    if operation == 10:
        return int(a < b)
    return {
        0: lambda: ~a, 1: lambda: -a, 2: lambda: a + a, 3: lambda: a >> 1,
        4: lambda: a & b, 5: lambda: a | b, 6: lambda: a ^ b,
        7: lambda: a + b, 8: lambda: a - b, 9: lambda: a * b,
    }[operation]() % size


def read_term(signs, w, k):
    """The term as nested tuples, or None if the signs, all of them, aren't one."""
    if len(signs) > 24:
        return None

    def read(place):
        sign = signs[place]
        if sign < 2:
            if sign >= k:
                raise LookupError
            return ("input", sign), place + 1
        if sign < 20:
            if sign - 2 >= 2 ** w:
                raise LookupError
            return ("number", sign - 2), place + 1
        parts = []
        place += 1
        for _ in range(ARITY[sign - 20]):
            part, place = read(place)
            parts.append(part)
        return ("operation", sign - 20, parts), place

    try:
        tree, end = read(0)
    except LookupError:
        return None
    return tree if end == len(signs) else None


def tree_cost(tree, numbers, operations):
    """What the term costs, or None if it isn't of the language."""
    if tree[0] == "input":
        return 1
    if tree[0] == "number":
        return 1 if tree[1] in numbers else None
    costs = [dict(operations).get(tree[1])] + [tree_cost(part, numbers, operations) for part in tree[2]]
    return None if None in costs else sum(costs)


def tree_value(tree, w, inputs):
    if tree[0] == "input":
        return inputs[tree[1]]
    if tree[0] == "number":
        return tree[1]
    return operate(tree[1], w, [tree_value(part, w, inputs) for part in tree[2]])


class Model:
    """A line answered by trying every term of the language, in order of cost and numbers."""

    def __init__(self):
        self.start(2, 1)

    def start(self, w, k):
        if not (1 <= w <= 4 and 1 <= k <= 2):
            return [-1]
        self.w, self.k, self.wished, self.told = w, k, [0], []
        self.let([1], [(7, 1)])
        return [(2 ** w) ** k]

    def let(self, numbers, operations):
        """Makes all terms of the language up to cost 5, by cost, with no care for what they do."""
        self.numbers, self.operations = numbers, operations
        terms = {1: [[i] for i in range(self.k)] + [[2 + c] for c in numbers]}
        for whole in range(2, 6):
            made = []
            for operation, price in operations:
                for costs in itertools.product(range(1, whole), repeat=ARITY[operation]):
                    if sum(costs) + price == whole:
                        for parts in itertools.product(*[terms[c] for c in costs]):
                            made.append([20 + operation] + [sign for part in parts for sign in part])
            terms[whole] = made
        self.terms = {whole: [(signs, read_term(signs, self.w, self.k)) for signs in sorted(rows)]
                      for whole, rows in terms.items()}

    def lang(self, numbers, operations):
        names = [operation for operation, _ in operations]
        granted = (len(numbers) <= 2 and len(names) <= 5
                   and len(set(numbers)) == len(numbers) and len(set(names)) == len(names)
                   and all(number < 2 ** self.w for number in numbers)
                   and all(name <= 11 and 1 <= price <= 3 for name, price in operations))
        if not granted:
            return [-1]
        self.let(numbers, operations)
        return [len(names)]

    def example(self, inputs, out):
        if len(inputs) != self.k or any(word >= 2 ** self.w for word in inputs + [out]):
            return [-1]
        if any(row == inputs and other != out for row, other in self.told):
            return [-3]
        if (inputs, out) not in self.told:
            if len(self.told) == 8:
                return [-5]
            self.told.append((inputs, out))
        return [len(self.told)]

    def clear(self):
        count = len(self.told)
        self.told = []
        return [count]

    def wish(self, term):
        if read_term(term, self.w, self.k) is None:
            return [-1]
        self.wished = term
        return [0]

    def rows(self):
        return [list(row) for row in itertools.product(range(2 ** self.w), repeat=self.k)]

    def wished_outs(self):
        wished = read_term(self.wished, self.w, self.k)
        return [(row, tree_value(wished, self.w, row)) for row in self.rows()]

    def missed(self, tree, told):
        """The first row, with its out, that the term doesn't do, or None."""
        for row, out in told:
            if tree_value(tree, self.w, row) != out:
                return row, out
        return None

    def first(self, most, told):
        for price in range(1, most + 1):
            for signs, tree in self.terms[price]:
                if self.missed(tree, told) is None:
                    return [price, len(signs)] + signs, tree
        return None

    def find(self, most):
        if most > 5:
            return [-1]
        found = self.first(most, self.told)
        return [0] if found is None else [1] + found[0]

    def learn(self, most):
        if most > 5:
            return [-1]
        wishes = self.wished_outs()
        if any(pair not in wishes for pair in self.told):
            return [-3]
        came = 0
        while True:
            found = self.first(most, self.told)
            if found is None:
                return [0, came]
            pair = self.missed(found[1], wishes)
            if pair is None:
                return [1, came] + found[0]
            if len(self.told) == 8:
                return [2]
            self.told.append(pair)
            came += 1

    def best(self, most):
        if most > 5:
            return [-1]
        found = self.first(most, self.wished_outs())
        return [0] if found is None else [1] + found[0]

    def check(self, term):
        tree = read_term(term, self.w, self.k)
        if tree is None:
            return [-1]
        pair = self.missed(tree, self.wished_outs())
        return [1] if pair is None else [0] + pair[0]

    def classes(self, most):
        if most > 5:
            return [-1]
        counts, cheaper = [], set()
        for price in range(1, most + 1):
            made = {tuple(tree_value(tree, self.w, row) for row, _ in self.told) for _, tree in self.terms[price]}
            counts.append(len(made - cheaper))
            cheaper |= made
        return [most] + counts

    def cost(self, term):
        tree = read_term(term, self.w, self.k)
        if tree is None:
            return [-1]
        price = tree_cost(tree, self.numbers, self.operations)
        return [0] if price is None else [1, price]

    def value(self, inputs, term):
        tree = read_term(term, self.w, self.k)
        if tree is None or len(inputs) != self.k or any(word >= 2 ** self.w for word in inputs):
            return [-1]
        return [tree_value(tree, self.w, inputs)]

    def shows(self):
        return [len(self.told)] + [number for row, out in self.told for number in row + [out]]
