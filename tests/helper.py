"""For the tests: the calls in numbers, their answers one by one, and a slow, plain model of a line."""

import itertools

from leastterm.terms import answers

ARITY = {0: 1, 1: 1, 2: 1, 3: 1, 4: 2, 5: 2, 6: 2, 7: 2, 8: 2, 9: 2, 10: 2, 11: 3}
HIGHEST = 4294967295


def counted(row):
    return [len(row)] + list(row)


def start(w, k):
    return [0, w, k]


def lang(numbers, operations):
    """operations: pairs of an operation's number and its cost."""
    return [1] + counted(numbers) + counted([part for pair in operations for part in pair])


def example(inputs, out):
    return [2, out] + counted(inputs)


def clear():
    return [3]


def wish(term):
    return [4] + counted(term)


def find(most):
    return [5, most]


def learn(most):
    return [6, most]


def split(given):
    """The answers one by one, each without its count."""
    rows = []
    place = 0
    while place < len(given):
        end = place + 1 + given[place]
        if end > len(given):
            raise ValueError("an answer is cut short")
        rows.append(given[place + 1:end])
        place = end
    return rows


def run(*calls):
    """The answers to the calls, which are on one new line."""
    if len(calls) > 40:
        raise ValueError("a line has at most 40 calls")
    return split(answers([number for call in calls for number in call]))


def last(*calls):
    return run(*calls)[-1]


def operate(operation, w, words):
    size = 2 ** w
    a = words[0]
    b = words[1] if len(words) > 1 else None
    if operation == 11:
        return words[2] if a == 0 else b
    if operation == 10:
        return int(a < b)
    return {
        0: lambda: ~a, 1: lambda: -a, 2: lambda: a + a, 3: lambda: a >> 1,
        4: lambda: a & b, 5: lambda: a | b, 6: lambda: a ^ b,
        7: lambda: a + b, 8: lambda: a - b, 9: lambda: a * b,
    }[operation]() % size


def read_term(signs, w, k):
    """The term as nested tuples, or None if the signs, all of them, aren't one."""
    if len(signs) > 24:
        return None

    def read(place):
        sign = signs[place]
        if sign < 2:
            if sign >= k:
                raise LookupError
            return ("input", sign), place + 1
        if sign < 20:
            if sign - 2 >= 2 ** w:
                raise LookupError
            return ("number", sign - 2), place + 1
        parts = []
        place += 1
        for _ in range(ARITY[sign - 20]):
            part, place = read(place)
            parts.append(part)
        return ("operation", sign - 20, parts), place

    try:
        tree, end = read(0)
    except LookupError:
        return None
    return tree if end == len(signs) else None


def tree_value(tree, w, inputs):
    if tree[0] == "input":
        return inputs[tree[1]]
    if tree[0] == "number":
        return tree[1]
    return operate(tree[1], w, [tree_value(part, w, inputs) for part in tree[2]])


class Model:
    """A line answered by trying every term of the language, in order of cost and numbers."""

    def __init__(self):
        self.start(2, 1)

    def start(self, w, k):
        if not (1 <= w <= 4 and 1 <= k <= 2):
            return [-1]
        self.w, self.k, self.wished, self.told = w, k, [0], []
        self.let([1], [(7, 1)])
        return [(2 ** w) ** k]

    def let(self, numbers, operations):
        """Makes all terms of the language up to cost 5, by cost, with no care for what they do."""
        terms = {1: [[i] for i in range(self.k)] + [[2 + c] for c in numbers]}
        for cost in range(2, 6):
            made = []
            for operation, price in operations:
                for costs in itertools.product(range(1, cost), repeat=ARITY[operation]):
                    if sum(costs) + price == cost:
                        for parts in itertools.product(*[terms[c] for c in costs]):
                            made.append([20 + operation] + [sign for part in parts for sign in part])
            terms[cost] = made
        self.terms = {cost: [(signs, read_term(signs, self.w, self.k)) for signs in sorted(rows)]
                      for cost, rows in terms.items()}

    def lang(self, numbers, operations):
        names = [operation for operation, _ in operations]
        granted = (len(numbers) <= 2 and len(names) <= 5
                   and len(set(numbers)) == len(numbers) and len(set(names)) == len(names)
                   and all(number < 2 ** self.w for number in numbers)
                   and all(name <= 11 and 1 <= cost <= 3 for name, cost in operations))
        if not granted:
            return [-1]
        self.let(numbers, operations)
        return [len(names)]

    def example(self, inputs, out):
        if len(inputs) != self.k or any(word >= 2 ** self.w for word in inputs + [out]):
            return [-1]
        if any(row == inputs and other != out for row, other in self.told):
            return [-3]
        if (inputs, out) not in self.told:
            if len(self.told) == 8:
                return [-5]
            self.told.append((inputs, out))
        return [len(self.told)]

    def clear(self):
        count = len(self.told)
        self.told = []
        return [count]

    def wish(self, term):
        if read_term(term, self.w, self.k) is None:
            return [-1]
        self.wished = term
        return [0]

    def first(self, most):
        for cost in range(1, most + 1):
            for signs, tree in self.terms[cost]:
                if all(tree_value(tree, self.w, row) == out for row, out in self.told):
                    return [cost, len(signs)] + signs, tree
        return None

    def find(self, most):
        if most > 5:
            return [-1]
        found = self.first(most)
        return [0] if found is None else [1] + found[0]

    def learn(self, most):
        wished = read_term(self.wished, self.w, self.k)
        if most > 5:
            return [-1]
        if any(tree_value(wished, self.w, row) != out for row, out in self.told):
            return [-3]
        came = 0
        while True:
            found = self.first(most)
            if found is None:
                return [0, came]
            for row in itertools.product(range(2 ** self.w), repeat=self.k):
                out = tree_value(wished, self.w, row)
                if tree_value(found[1], self.w, row) != out:
                    break
            else:
                return [1, came] + found[0]
            if len(self.told) == 8:
                return [2]
            self.told.append((list(row), out))
            came += 1
