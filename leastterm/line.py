"""What the calls of one line are about, and what each call answers."""

from leastterm.language import Language
from leastterm.language import may_be_let
from leastterm.notation import is_term
from leastterm.notation import term_outcomes
from leastterm.search import first_term
from leastterm.words import all_rows

NOT_GRANTED = -1
AT_ODDS = -3
FULL = -5

SUM = 7
MOST_EXAMPLES = 8
MOST_COST = 5


class Line:
    """One language, wish and row of examples. Each call's method gives back the numbers it answers."""

    def __init__(self):
        self.begin(2, 1)

    def begin(self, width, inputs):
        self.language = Language(1 << width, inputs, [1], {SUM: 1})
        self.wish = [0]
        # From each example's inputs to what's to come, in the order in which they came.
        self.examples = {}

    def start(self, width, inputs):
        if width not in (1, 2, 3, 4) or inputs not in (1, 2):
            return [NOT_GRANTED]
        self.begin(width, inputs)
        return [len(all_rows(self.language.size, inputs))]

    def tell_language(self, numbers, priced):
        """priced holds each operation's number and its cost, one operation behind another."""
        language = self.language
        operations = priced[0::2]
        costs = priced[1::2]
        if not may_be_let(language.size, numbers, operations, costs):
            return [NOT_GRANTED]
        prices = dict(zip(operations, costs))
        self.language = Language(language.size, language.inputs, list(numbers), prices)
        return [len(operations)]

    def tell_example(self, inputs, out):
        language = self.language
        if len(inputs) != language.inputs or max(inputs + [out]) >= language.size:
            return [NOT_GRANTED]
        row = tuple(inputs)
        if self.examples.get(row, out) != out:
            return [AT_ODDS]
        # One that's there already takes no room, so it's no ninth one.
        if row not in self.examples and len(self.examples) == MOST_EXAMPLES:
            return [FULL]
        self.examples[row] = out
        return [len(self.examples)]

    def forget_examples(self):
        count = len(self.examples)
        self.examples = {}
        return [count]

    def tell_wish(self, term):
        if not is_term(term, self.language.size, self.language.inputs):
            return [NOT_GRANTED]
        self.wish = list(term)
        return [0]

    def find_first(self, most):
        if most > MOST_COST:
            return [NOT_GRANTED]
        found = self.first_by_examples(most)
        return [0] if found is None else [1] + told(found)

    def learn(self, most):
        if most > MOST_COST:
            return [NOT_GRANTED]
        if not self.wish_does_examples():
            return [AT_ODDS]
        rows = all_rows(self.language.size, self.language.inputs)
        wishes = term_outcomes(self.wish, self.language.size, rows)
        before = len(self.examples)
        while True:
            found = self.first_by_examples(most)
            came = len(self.examples) - before
            if found is None:
                return [0, came]
            place = first_difference(wishes, term_outcomes(found[1], self.language.size, rows))
            if place is None:
                return [1, came] + told(found)
            if len(self.examples) == MOST_EXAMPLES:
                return [2]
            self.examples[rows[place]] = wishes[place]

    def first_by_examples(self, most):
        return first_term(self.language, list(self.examples), tuple(self.examples.values()), most)

    def wish_does_examples(self):
        outcomes = term_outcomes(self.wish, self.language.size, list(self.examples))
        return outcomes == tuple(self.examples.values())


def told(found):
    """A found term as it's answered: what it costs, how many numbers it's told in, these."""
    return [found[0], len(found[1])] + found[1]


def first_difference(ones, others):
    """The first place at which two rows of the same length differ, or None."""
    for place, one in enumerate(ones):
        if one != others[place]:
            return place
    return None
