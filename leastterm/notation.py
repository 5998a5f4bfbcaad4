"""Terms in numbers: which rows of numbers are terms, and what a term is of rows of inputs."""

from leastterm.words import ARITIES
from leastterm.words import operate

FIRST_NUMBER = 2
FIRST_OPERATION = 20
LONGEST_TERM = 24


def is_there(sign, size, inputs):
    """Whether the sign is one of an input, a number or an operation that there is."""
    if sign >= FIRST_OPERATION:
        return sign - FIRST_OPERATION < len(ARITIES)
    if sign >= FIRST_NUMBER:
        return sign - FIRST_NUMBER < size
    return sign < inputs


def arity(sign):
    """How many terms stand behind the sign."""
    if sign >= FIRST_OPERATION:
        return ARITIES[sign - FIRST_OPERATION]
    return 0


def is_term(signs, size, inputs):
    """Whether the signs, all of them, are one term that may be told."""
    if len(signs) > LONGEST_TERM:
        return False
    missing = 1
    for sign in signs:
        if missing == 0 or not is_there(sign, size, inputs):
            return False
        missing += arity(sign) - 1
    return missing == 0


def leaf_outcomes(sign, rows):
    """What an input or a number is of each row of inputs."""
    if sign < FIRST_NUMBER:
        return tuple([row[sign] for row in rows])
    return tuple([sign - FIRST_NUMBER for row in rows])


def term_outcomes(term, size, rows):
    """What the term is of each row of inputs."""
    # From the back to the front an operation finds its terms done already, the first of them on top.
    done = []
    for sign in reversed(term):
        if sign < FIRST_OPERATION:
            done.append(leaf_outcomes(sign, rows))
        else:
            parts = [done.pop() for part in range(arity(sign))]
            done.append(operate(sign - FIRST_OPERATION, size, parts))
    return done[0]
