import unittest

from tests.helper import HIGHEST, best, clear, example, find, lang, last, learn, run, shows, start, wish

# Input 0, but for the last row of inputs at w 4: of 15, and of (15, 15), it is 14.
ALL_BUT_LAST_OF_ONE = [26, 0, 30, 16, 0]
ALL_BUT_LAST_OF_TWO = [26, 0, 24, 30, 16, 0, 30, 16, 1]


class Best(unittest.TestCase):
    def test_the_first_term_with_its_cost_and_length(self):
        self.assertEqual(run(best(5)), [[1, 1, 1, 0]])
        self.assertEqual(last(wish([27, 3, 0]), best(5)), [1, 3, 3, 27, 0, 3])
        self.assertEqual(last(wish([28, 0, 3]), best(5)), [0])
        self.assertEqual(last(wish([28, 0, 5]), best(5)), [1, 3, 3, 27, 0, 3])

    def test_what_it_costs_is_not_how_many_numbers_it_has(self):
        told = [start(2, 2), wish([31, 0, 1, 0])]
        for price in (1, 2):
            self.assertEqual(last(*told, lang([], [(11, price)]), best(5)), [1, 3 + price, 4, 31, 0, 1, 0])
        self.assertEqual(last(*told, lang([], [(11, 3)]), best(5)), [0])

    def test_the_term_that_costs_least(self):
        self.assertEqual(last(wish([29, 0, 4]), lang([], [(2, 3), (7, 1)]), best(5)), [1, 3, 3, 27, 0, 0])
        self.assertEqual(last(wish([29, 0, 4]), lang([], [(2, 1), (7, 1)]), best(5)), [1, 2, 2, 22, 0])

    def test_of_the_same_cost_the_one_whose_numbers_come_first(self):
        self.assertEqual(last(wish([29, 0, 4]), lang([], [(7, 1), (2, 2)]), best(5)), [1, 3, 2, 22, 0])
        self.assertEqual(last(start(2, 2), wish([27, 1, 0]), best(5)), [1, 3, 3, 27, 0, 1])

    def test_within_most_or_0(self):
        for most in (0, 1, 2):
            self.assertEqual(last(wish([27, 3, 0]), best(most)), [0])
        for most in (3, 4, 5):
            self.assertEqual(last(wish([27, 3, 0]), best(most)), [1, 3, 3, 27, 0, 3])

    def test_a_term_of_cost_5_and_one_that_would_cost_more(self):
        self.assertEqual(last(wish([5]), best(5)), [1, 5, 5, 27, 3, 27, 3, 3])
        self.assertEqual(last(wish([5]), best(4)), [0])
        self.assertEqual(last(wish([2]), best(5)), [0])

    def test_most_0(self):
        self.assertEqual(run(best(0), lang([], []), best(0)), [[0], [0], [0]])

    def test_most_above_5_is_refused(self):
        self.assertEqual(run(best(5), best(6), best(HIGHEST)), [[1, 1, 1, 0], [-1], [-1]])

    def test_of_all_inputs(self):
        self.assertEqual(last(start(4, 1), lang([], []), wish(ALL_BUT_LAST_OF_ONE), best(5)), [0])
        self.assertEqual(last(start(4, 2), lang([], []), wish(ALL_BUT_LAST_OF_TWO), best(5)), [0])
        self.assertEqual(last(start(4, 1), lang([14], [(6, 1), (10, 1)]), wish(ALL_BUT_LAST_OF_ONE), best(5)),
                         [1, 5, 5, 26, 0, 30, 16, 0])

    def test_the_examples_play_no_part(self):
        against = [example([0], 3), example([1], 0), example([2], 0)]
        for most in range(6):
            self.assertEqual(last(wish([27, 3, 0]), *against, best(most)), last(wish([27, 3, 0]), best(most)))
        self.assertEqual(last(example([0], 3), learn(5)), [-3])
        self.assertEqual(last(example([0], 3), best(5)), [1, 1, 1, 0])

    def test_more_than_eight_rows_may_be_needed(self):
        # learn comes to 2 for this one; best looks at all inputs.
        told = [start(4, 1), wish([31, 30, 0, 10, 0, 2])] + [example([a], a) for a in range(8)]
        self.assertEqual(last(*told, lang([0, 8], [(11, 1), (10, 1)]), best(5)), [0])
        self.assertEqual(last(*told, lang([8], [(9, 1), (10, 1)]), best(5)), [1, 5, 5, 29, 0, 30, 0, 10])
        self.assertEqual(last(*told, best(5)), [0])

    def test_no_examples_come_of_it(self):
        self.assertEqual(run(wish([27, 3, 0]), best(5), clear(), example([2], 0), best(5), shows())[1:],
                         [[1, 3, 3, 27, 0, 3], [0], [1], [1, 3, 3, 27, 0, 3], [1, 2, 0]])

    def test_no_operations(self):
        self.assertEqual(run(lang([3, 0], []), best(5), wish([5]), best(5), wish([28, 0, 0]), best(5), wish([4]),
                             best(5), wish([20, 0]), best(5)),
                         [[0], [1, 1, 1, 0], [0], [1, 1, 1, 5], [0], [1, 1, 1, 2], [0], [0], [0], [0]])

    def test_no_numbers(self):
        self.assertEqual(run(lang([], [(8, 1)]), wish([2]), best(5), wish([3]), best(5), wish([21, 0]), best(5)),
                         [[1], [0], [1, 3, 3, 28, 0, 0], [0], [0], [0], [1, 5, 5, 28, 28, 0, 0, 0]])

    def test_neither(self):
        self.assertEqual(run(start(3, 2), lang([], []), best(5), wish([20, 20, 1]), best(5), wish([27, 0, 1]), best(5),
                             wish([2]), best(5))[2:], [[1, 1, 1, 0], [0], [1, 1, 1, 1], [0], [0], [0], [0]])

    def test_after_start_it_is_the_wish_and_language_of_the_beginning(self):
        before = [start(3, 2), lang([], [(0, 1)]), wish([20, 1])]
        self.assertEqual(last(*before, best(5)), [1, 2, 2, 20, 1])
        self.assertEqual(run(*before, start(3, 2), best(5), wish([20, 1]), best(5), wish([4]), best(5))[-5:],
                         [[1, 1, 1, 0], [0], [0], [0], [1, 3, 3, 27, 3, 3]])

    def test_after_a_refusal_all_is_as_it_was(self):
        before = [wish([27, 3, 0]), example([1], 3)]
        self.assertEqual(run(*before, best(6), best(5), find(5), shows())[2:],
                         [[-1], [1, 3, 3, 27, 0, 3], [1, 5, 5, 27, 0, 27, 0, 0], [1, 1, 3]])


if __name__ == "__main__":
    unittest.main()
