import unittest

from tests.helper import ARITY, LONGEST_TERMS, check, example, lang, last, no_terms, run, shows, start, wish


class Check(unittest.TestCase):
    def test_1_alone_if_it_does_the_wish(self):
        self.assertEqual(run(check([0]), check([20, 20, 0]), wish([27, 3, 0]), check([27, 3, 0]), check([28, 0, 5])),
                         [[1], [1], [0], [1], [1]])
        self.assertEqual(run(start(3, 2), wish([27, 1, 0]), check([27, 0, 1]), check([28, 0, 21, 1]))[2:], [[1], [1]])

    def test_0_and_the_first_input(self):
        self.assertEqual(run(check([3]), check([2]), check([22, 0]), check([20, 0])), [[0, 0], [0, 1], [0, 1], [0, 0]])
        self.assertEqual(run(wish([24, 0, 3]), check([0])), [[0], [0, 2]])
        self.assertEqual(run(wish([26, 0, 30, 4, 0]), check([0])), [[0], [0, 3]])

    def test_0_and_the_first_two_inputs(self):
        self.assertEqual(run(start(2, 2), check([1]), check([2]), check([3]), check([22, 0]))[1:],
                         [[0, 0, 1], [0, 1, 0], [0, 0, 0], [0, 1, 0]])

    def test_in_the_order_of_the_first_input_then_of_the_second(self):
        # The sum differs from input 0 wherever input 1 isn't 0, and from input 1 wherever input 0 isn't.
        self.assertEqual(run(start(2, 2), wish([27, 0, 1]), check([0]), check([1]), check([2]))[2:],
                         [[0, 0, 1], [0, 1, 0], [0, 0, 1]])
        # A sum above 5: of (0, 6) first in this order, of (6, 0) in the other.
        self.assertEqual(last(start(3, 2), wish([30, 7, 27, 0, 1]), check([2])), [0, 0, 6])

    def test_only_the_last_row_differs(self):
        self.assertEqual(last(start(4, 1), wish([26, 0, 30, 16, 0]), check([0])), [0, 15])
        self.assertEqual(last(start(4, 2), wish([26, 0, 24, 30, 16, 0, 30, 16, 1]), check([0])), [0, 15, 15])
        self.assertEqual(last(start(4, 2), check([26, 0, 24, 30, 16, 0, 30, 16, 1])), [0, 15, 15])

    def test_only_one_row_differs(self):
        for a in range(4):
            for b in range(4):
                # 1 of (a, b) alone: (0 xor a) or (1 xor b) is less than 1.
                one = [30, 25, 26, 0, 2 + a, 26, 1, 2 + b, 3]
                self.assertEqual(run(start(2, 2), wish([2]), check(one), wish(one), check([2]), check(one))[2:],
                                 [[0, a, b], [0], [0, a, b], [1]])

    def test_operations_and_numbers_that_the_language_does_not_let(self):
        nothing = [lang([], []), wish([29, 0, 5])]
        self.assertEqual(run(*nothing, check([29, 5, 0]), check([21, 0]), check([5]), check([2]))[2:],
                         [[1], [1], [0, 0], [0, 1]])
        for operation, arity in ARITY.items():
            term = [20 + operation] + [0, 4, 5][:arity]
            self.assertEqual(run(lang([], []), wish(term), check(term))[1:], [[0], [1]])

    def test_the_examples_play_no_part(self):
        self.assertEqual(run(example([0], 3), example([1], 0), check([0]), check([2]), shows())[2:],
                         [[1], [0, 1], [2, 0, 3, 1, 0]])

    def test_the_term_is_not_the_wish_then(self):
        self.assertEqual(run(check([5]), check([0]), check([5])), [[0, 0], [1], [0, 0]])

    def test_the_wish_of_the_beginning_after_start(self):
        self.assertEqual(run(wish([20, 0]), check([0]), start(1, 2), check([0]), check([1]))[1:],
                         [[0, 0], [4], [1], [0, 0, 1]])

    def test_the_longest_terms(self):
        for term in LONGEST_TERMS:
            self.assertEqual(run(wish(term), check(term)), [[0], [1]])
        self.assertEqual(run(check([20] * 23 + [0]), check([20, 20] * 11 + [0])), [[0, 0], [1]])

    def test_refused_terms_leave_all_as_it_was(self):
        for term in no_terms():
            self.assertEqual(run(wish([20, 0]), example([1], 2), check(term), check([20, 0]), shows())[2:],
                             [[-1], [1], [1, 1, 2]], term)


if __name__ == "__main__":
    unittest.main()
