"""The search for the first term of a language that makes what is wanted of some rows of inputs."""

from leastterm.notation import FIRST_NUMBER
from leastterm.notation import FIRST_OPERATION
from leastterm.notation import leaf_outcomes
from leastterm.words import ARITIES
from leastterm.words import operate


class Search:
    """The things that terms make of the rows, cost by cost, each with the first term that makes it.

    The other terms for a thing are left out: where one of them stands within a term, the first
    one in its place makes the same, and makes the whole term cheaper or its numbers come sooner.
    """

    def __init__(self, language, rows):
        self.language = language
        self.rows = rows
        self.levels = [{}]
        self.known = {}

    def grow(self):
        """The things that terms of the next cost make and no cheaper one does."""
        cost = len(self.levels)
        level = {}
        if cost == 1:
            self.offer_leaves(level)
        for operation, price in self.language.prices.items():
            self.offer_operation(level, operation, cost - price)
        for thing in level:
            self.known[thing] = True
        self.levels.append(level)
        return level

    def offer_leaves(self, level):
        numbers = [FIRST_NUMBER + number for number in self.language.numbers]
        for sign in list(range(self.language.inputs)) + numbers:
            self.offer(level, leaf_outcomes(sign, self.rows), [sign])

    def offer_operation(self, level, operation, cost):
        """Offers each term that has the operation in front and parts that cost so much together."""
        for parts in part_rows(self.levels, ARITIES[operation], cost):
            thing = operate(operation, self.language.size, [part[0] for part in parts])
            signs = [FIRST_OPERATION + operation]
            for part in parts:
                signs.extend(part[1])
            self.offer(level, thing, signs)

    def offer(self, level, thing, signs):
        if thing in self.known:
            return
        if thing not in level or signs < level[thing]:
            level[thing] = signs


def part_rows(levels, count, cost):
    """Each row of count parts that cost so much together; a part is a thing and its term."""
    if count == 0:
        return [[]] if cost == 0 else []
    rows = []
    # Each part behind the first costs at least 1.
    for first_cost in range(1, cost - count + 2):
        for others in part_rows(levels, count - 1, cost - first_cost):
            rows.extend([[part] + others for part in levels[first_cost].items()])
    return rows


def first_term(language, rows, wanted, most):
    """What the first term that makes the wanted thing of the rows costs, and its numbers; or None."""
    search = Search(language, rows)
    for cost in range(1, most + 1):
        level = search.grow()
        if wanted in level:
            return (cost, level[wanted])
    return None


def count_things(language, rows, most):
    """For each cost from 1 to most how many things terms of it make of the rows that no cheaper one does."""
    search = Search(language, rows)
    counts = []
    while len(counts) < most:
        counts.append(len(search.grow()))
    return counts
