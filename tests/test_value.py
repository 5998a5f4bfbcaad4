import itertools
import unittest

from tests.helper import (ARITY, HIGHEST, LONGEST_TERMS, check, example, lang, last, no_terms, operate, run, shows,
                          start, value, wish)


def split_in_lines(first, calls):
    """The answers to many calls, in lines of 40 that begin with the same call."""
    given = []
    for place in range(0, len(calls), 39):
        given.extend(run(first, *calls[place:place + 39])[1:])
    return given


class Operations(unittest.TestCase):
    def test_each_operation_of_all_words(self):
        for w in (1, 2, 3, 4):
            for operation, arity in ARITY.items():
                rows = list(itertools.product(range(2 ** w), repeat=arity))
                if arity < 3:
                    calls = [value(row, [20 + operation] + [0, 1][:arity]) for row in rows]
                else:
                    calls = [value(row[1:], [20 + operation, 2 + row[0], 0, 1]) for row in rows]
                given = split_in_lines(start(w, min(arity, 2)), calls)
                self.assertEqual(given, [[operate(operation, w, row)] for row in rows], (w, operation))

    def test_one_bit_by_hand(self):
        by_hand = {0: [1, 0], 1: [0, 1], 2: [0, 0], 3: [0, 0],
                   4: [0, 0, 0, 1], 5: [0, 1, 1, 1], 6: [0, 1, 1, 0], 7: [0, 1, 1, 0], 8: [0, 1, 1, 0],
                   9: [0, 0, 0, 1], 10: [0, 1, 0, 0], 11: [0, 1, 0, 1, 0, 0, 1, 1]}
        for operation, outs in by_hand.items():
            rows = itertools.product((0, 1), repeat=ARITY[operation])
            calls = [value([0], [20 + operation] + [2 + word for word in row]) for row in rows]
            self.assertEqual(run(start(1, 1), *calls)[1:], [[out] for out in outs], operation)

    def test_four_bits_by_hand(self):
        by_hand = [(0, [5], 10), (0, [0], 15), (1, [5], 11), (1, [0], 0), (1, [8], 8), (2, [9], 2), (2, [7], 14),
                   (3, [9], 4), (3, [15], 7), (3, [1], 0), (4, [12, 10], 8), (5, [12, 10], 14), (6, [12, 10], 6),
                   (7, [12, 10], 6), (7, [7, 8], 15), (7, [8, 8], 0), (8, [10, 12], 14), (8, [12, 10], 2),
                   (9, [5, 7], 3), (9, [4, 4], 0), (10, [3, 4], 1), (10, [4, 4], 0), (10, [5, 4], 0),
                   (11, [0, 6, 9], 9), (11, [1, 6, 9], 6), (11, [15, 6, 9], 6)]
        for operation, words, out in by_hand:
            self.assertEqual(last(start(4, 1), value([0], [20 + operation] + [2 + word for word in words])), [out])


class Value(unittest.TestCase):
    def test_inputs_and_numbers(self):
        self.assertEqual(run(value([2], [0]), value([2], [5]), start(3, 2), value([6, 1], [0]), value([6, 1], [1]),
                             value([6, 1], [9])), [[2], [3], [64], [6], [1], [7]])

    def test_terms_stand_in_order_behind_an_operation(self):
        self.assertEqual(run(start(3, 2), value([1, 5], [28, 0, 1]), value([1, 5], [28, 1, 0]),
                             value([1, 5], [28, 27, 0, 4, 1]), value([1, 5], [31, 28, 0, 3, 0, 28, 1, 0]))[1:],
                         [[4], [4], [6], [4]])
        self.assertEqual(run(start(3, 1), *[value([a], [31, 30, 2, 0, 28, 0, 3, 20, 2]) for a in range(8)])[1:],
                         [[7], [0], [1], [2], [3], [4], [5], [6]])

    def test_operations_and_numbers_that_the_language_does_not_let(self):
        self.assertEqual(run(lang([], []), value([3], [29, 0, 5]), value([3], [5]))[1:], [[1], [3]])

    def test_the_longest_terms(self):
        self.assertEqual([last(value([1], term)) for term in LONGEST_TERMS], [[2], [3]])

    def test_refused_terms_leave_all_as_it_was(self):
        for term in no_terms():
            self.assertEqual(run(wish([20, 0]), example([1], 2), value([0], term), check([20, 0]), shows())[2:],
                             [[-1], [1], [1, 1, 2]], term)

    def test_not_as_many_inputs_as_there_are(self):
        for k in (1, 2):
            for count in range(5):
                for term in ([0], [3]):
                    expected = [0] if term == [0] else [1]
                    self.assertEqual(last(start(2, k), value([0] * count, term)), expected if count == k else [-1])

    def test_inputs_beyond_the_words(self):
        for w in (1, 2, 3, 4):
            top = 2 ** w
            self.assertEqual(run(start(w, 1), value([top - 1], [0]), value([top], [0]), value([top], [2]),
                                 value([HIGHEST], [0]))[1:], [[top - 1], [-1], [-1], [-1]])
            self.assertEqual(run(start(w, 2), value([0, top - 1], [1]), value([0, top], [0]), value([top, 0], [1]),
                                 value([top, top], [2]), value([HIGHEST, 0], [1]))[1:], [[top - 1]] + [[-1]] * 4)

    def test_inputs_and_term_both_not_granted(self):
        self.assertEqual(run(value([], []), value([4], [1]), value([0, 0], [0, 0])), [[-1]] * 3)

    def test_refused_inputs_leave_all_as_it_was(self):
        for inputs in ([], [4], [0, 0]):
            self.assertEqual(run(wish([20, 0]), example([1], 2), value(inputs, [0]), check([20, 0]), shows())[2:],
                             [[-1], [1], [1, 1, 2]])

    def test_examples_and_wish_play_no_part(self):
        self.assertEqual(run(wish([3]), example([2], 1), value([2], [0]), value([2], [20, 0]), shows())[2:],
                         [[2], [1], [1, 2, 1]])


if __name__ == "__main__":
    unittest.main()
