"""What the calls of one line are about, and what each call answers."""

from leastterm.language import Language
from leastterm.language import may_be_let
from leastterm.language import term_cost
from leastterm.notation import is_term
from leastterm.notation import term_outcomes
from leastterm.search import count_things
from leastterm.search import first_term
from leastterm.words import all_rows

NOT_GRANTED = -1
AT_ODDS = -3
FULL = -5

SUM = 7
MOST_EXAMPLES = 8
MOST_COST = 5


class Line:
    """One language, wish and row of examples. Each call's method gives back the numbers it answers."""

    def __init__(self):
        self.begin(2, 1)

    def begin(self, width, inputs):
        self.language = Language(1 << width, inputs, [1], {SUM: 1})
        self.wish = [0]
        # From each example's inputs to what's to come, in the order in which they came.
        self.examples = {}

    def start(self, width, inputs):
        if width not in (1, 2, 3, 4) or inputs not in (1, 2):
            return [NOT_GRANTED]
        self.begin(width, inputs)
        return [len(self.every_row())]

    def tell_language(self, numbers, priced):
        """priced holds each operation's number and its cost, one operation behind another."""
        language = self.language
        operations = priced[0::2]
        costs = priced[1::2]
        if not may_be_let(language.size, numbers, operations, costs):
            return [NOT_GRANTED]
        prices = dict(zip(operations, costs))
        self.language = Language(language.size, language.inputs, list(numbers), prices)
        return [len(operations)]

    def tell_example(self, inputs, out):
        if not self.are_inputs(inputs) or out >= self.language.size:
            return [NOT_GRANTED]
        row = tuple(inputs)
        if self.examples.get(row, out) != out:
            return [AT_ODDS]
        # One that's there already takes no room, so it's no ninth one.
        if row not in self.examples and len(self.examples) == MOST_EXAMPLES:
            return [FULL]
        self.examples[row] = out
        return [len(self.examples)]

    def forget_examples(self):
        count = len(self.examples)
        self.examples = {}
        return [count]

    def tell_wish(self, term):
        if not self.is_granted(term):
            return [NOT_GRANTED]
        self.wish = list(term)
        return [0]

    def find_first(self, most):
        if most > MOST_COST:
            return [NOT_GRANTED]
        return found_or_none(self.first_by_examples(most))

    def learn(self, most):
        if most > MOST_COST:
            return [NOT_GRANTED]
        if self.outcomes(self.wish, list(self.examples)) != tuple(self.examples.values()):
            return [AT_ODDS]
        rows = self.every_row()
        wishes = self.outcomes(self.wish, rows)
        before = len(self.examples)
        while True:
            found = self.first_by_examples(most)
            came = len(self.examples) - before
            if found is None:
                return [0, came]
            place = first_difference(wishes, self.outcomes(found[1], rows))
            if place is None:
                return [1, came] + told(found)
            if len(self.examples) == MOST_EXAMPLES:
                return [2]
            self.examples[rows[place]] = wishes[place]

    def find_best(self, most):
        if most > MOST_COST:
            return [NOT_GRANTED]
        rows = self.every_row()
        return found_or_none(first_term(self.language, rows, self.outcomes(self.wish, rows), most))

    def check(self, term):
        if not self.is_granted(term):
            return [NOT_GRANTED]
        rows = self.every_row()
        place = first_difference(self.outcomes(self.wish, rows), self.outcomes(term, rows))
        return [1] if place is None else [0] + list(rows[place])

    def count_classes(self, most):
        if most > MOST_COST:
            return [NOT_GRANTED]
        return [most] + count_things(self.language, list(self.examples), most)

    def tell_cost(self, term):
        if not self.is_granted(term):
            return [NOT_GRANTED]
        cost = term_cost(self.language, term)
        return [0] if cost is None else [1, cost]

    def tell_value(self, inputs, term):
        if not self.is_granted(term) or not self.are_inputs(inputs):
            return [NOT_GRANTED]
        return list(self.outcomes(term, [inputs]))

    def show_examples(self):
        shown = [len(self.examples)]
        for row, out in self.examples.items():
            shown.extend(list(row) + [out])
        return shown

    def is_granted(self, term):
        return is_term(term, self.language.size, self.language.inputs)

    def are_inputs(self, row):
        return len(row) == self.language.inputs and max(row) < self.language.size

    def every_row(self):
        return all_rows(self.language.size, self.language.inputs)

    def outcomes(self, term, rows):
        return term_outcomes(term, self.language.size, rows)

    def first_by_examples(self, most):
        return first_term(self.language, list(self.examples), tuple(self.examples.values()), most)


def told(found):
    """A found term as it's answered: what it costs, how many numbers it's told in, these."""
    return [found[0], len(found[1])] + found[1]


def found_or_none(found):
    return [0] if found is None else [1] + told(found)


def first_difference(ones, others):
    """The first place at which two rows of the same length differ, or None."""
    for place, one in enumerate(ones):
        if one != others[place]:
            return place
    return None
