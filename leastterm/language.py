"""The language: how many words and inputs there are, which numbers and operations are let, and what terms cost."""

from leastterm.notation import FIRST_NUMBER
from leastterm.notation import FIRST_OPERATION
from leastterm.words import ARITIES

MOST_NUMBERS = 2
MOST_OPERATIONS = 5
PRICES = (1, 2, 3)
LEAF_COST = 1


class Language:
    """A language. It is never changed: another one takes its place."""

    def __init__(self, size, inputs, numbers, prices):
        self.size = size
        self.inputs = inputs
        self.numbers = numbers
        self.prices = prices


def has_twice(told):
    return len(set(told)) < len(told)


def may_be_let(size, numbers, operations, costs):
    """Whether a language of words below size may let these numbers, and these operations at these costs."""
    if len(numbers) > MOST_NUMBERS or len(operations) > MOST_OPERATIONS:
        return False
    if has_twice(numbers) or has_twice(operations):
        return False
    if any([number >= size for number in numbers]):
        return False
    if any([operation >= len(ARITIES) for operation in operations]):
        return False
    return all([cost in PRICES for cost in costs])


def sign_cost(language, sign):
    """What a sign of a term costs by itself, or None if the language doesn't let it."""
    if sign >= FIRST_OPERATION:
        return language.prices.get(sign - FIRST_OPERATION)
    if sign >= FIRST_NUMBER and sign - FIRST_NUMBER not in language.numbers:
        return None
    return LEAF_COST


def term_cost(language, term):
    """What the term costs, or None if it isn't of the language."""
    costs = [sign_cost(language, sign) for sign in term]
    return None if None in costs else sum(costs)
