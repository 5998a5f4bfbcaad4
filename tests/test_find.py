import unittest

from tests.helper import HIGHEST, clear, example, find, lang, last, run, start, wish


class Find(unittest.TestCase):
    def test_the_term_that_costs_least(self):
        # Twice the input is [22, 0] at cost 4 and [27, 0, 0] at cost 3.
        told = [example([1], 2), example([3], 2)]
        self.assertEqual(last(lang([], [(2, 3), (7, 1)]), *told, find(5)), [1, 3, 3, 27, 0, 0])
        self.assertEqual(last(lang([], [(2, 1), (7, 1)]), *told, find(5)), [1, 2, 2, 22, 0])

    def test_of_the_same_cost_the_one_whose_numbers_come_first(self):
        told = [example([1], 2), example([3], 2)]
        self.assertEqual(last(lang([], [(7, 1), (2, 2)]), *told, find(5)), [1, 3, 2, 22, 0])
        self.assertEqual(last(example([0], 1), example([1], 2), find(5)), [1, 3, 3, 27, 0, 3])
        self.assertEqual(last(example([0], 3), find(5)), [1, 5, 5, 27, 3, 27, 3, 3])

    def test_the_order_in_which_the_language_is_told_does_not_matter(self):
        told = [start(2, 2), example([0, 0], 3), example([3, 1], 0)]
        first = last(*told, lang([1, 3], [(0, 1), (6, 1), (8, 1)]), find(5))
        self.assertEqual(first, last(*told, lang([3, 1], [(8, 1), (6, 1), (0, 1)]), find(5)))
        self.assertEqual(first, [1, 2, 2, 20, 0])

    def test_an_input_before_a_number_and_input_0_before_input_1(self):
        self.assertEqual(last(start(2, 2), example([1, 1], 1), find(5)), [1, 1, 1, 0])
        self.assertEqual(last(start(2, 2), example([0, 1], 1), find(5)), [1, 1, 1, 1])
        self.assertEqual(last(start(2, 2), lang([2, 1], []), example([0, 0], 1), find(5)), [1, 1, 1, 3])

    def test_within_most_or_0(self):
        told = [example([0], 1), example([1], 2)]
        for most in (0, 1, 2):
            self.assertEqual(last(*told, find(most)), [0])
        for most in (3, 4, 5):
            self.assertEqual(last(*told, find(most)), [1, 3, 3, 27, 0, 3])

    def test_a_term_of_cost_5_and_one_that_would_cost_more(self):
        self.assertEqual(last(example([0], 3), find(5)), [1, 5, 5, 27, 3, 27, 3, 3])
        self.assertEqual(last(example([0], 3), find(4)), [0])
        self.assertEqual(last(lang([1], [(7, 2)]), example([0], 3), find(5)), [0])

    def test_most_above_5_is_refused(self):
        self.assertEqual(run(find(5), find(6), find(HIGHEST)), [[1, 1, 1, 0], [-1], [-1]])

    def test_most_0(self):
        self.assertEqual(run(find(0), example([1], 1), find(0)), [[0], [1], [0]])

    def test_no_operations(self):
        self.assertEqual(run(lang([0, 3], []), example([1], 3), find(5), clear(), example([1], 2), find(5)),
                         [[0], [1], [1, 1, 1, 5], [1], [1], [0]])

    def test_no_numbers(self):
        self.assertEqual(run(lang([], [(8, 1)]), example([1], 0), example([2], 0), find(5), clear(),
                             example([0], 1), find(5)), [[1], [1], [2], [1, 3, 3, 28, 0, 0], [2], [1], [0]])

    def test_neither(self):
        self.assertEqual(run(lang([], []), find(5), example([1], 1), find(5), example([0], 1), find(5)),
                         [[0], [1, 1, 1, 0], [1], [1, 1, 1, 0], [2], [0]])

    def test_no_examples(self):
        for w in (1, 4):
            for k in (1, 2):
                self.assertEqual(run(start(w, k), lang([0], [(0, 1)]), find(1), find(5))[2:], [[1, 1, 1, 0]] * 2)

    def test_operations_of_three(self):
        told = [start(2, 2), lang([], [(11, 1)]), example([0, 2], 2), example([1, 2], 1)]
        self.assertEqual(last(*told, find(5)), [1, 4, 4, 31, 0, 0, 1])
        self.assertEqual(last(*told, find(3)), [0])
        self.assertEqual(last(*told, lang([], [(11, 2)]), find(5)), [1, 5, 4, 31, 0, 0, 1])
        self.assertEqual(last(*told, lang([], [(11, 3)]), find(5)), [0])

    def test_the_wish_does_not_matter(self):
        told = [example([0], 1), example([1], 2)]
        self.assertEqual(last(wish([20, 0]), *told, find(5)), last(*told, find(5)))

    def test_nothing_comes_of_it(self):
        self.assertEqual(run(example([0], 1), find(5), find(5), clear())[1:], [[1, 1, 1, 3], [1, 1, 1, 3], [1]])
        self.assertEqual(run(example([0], 1), find(6), find(5), clear())[1:], [[-1], [1, 1, 1, 3], [1]])


if __name__ == "__main__":
    unittest.main()
