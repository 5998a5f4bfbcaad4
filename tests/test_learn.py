import unittest

from tests.helper import HIGHEST, clear, example, find, lang, last, learn, run, start, wish

BELOW_8 = [31, 30, 0, 10, 0, 2]


class Learn(unittest.TestCase):
    def test_1_with_no_example_needed(self):
        self.assertEqual(run(learn(1), clear()), [[1, 0, 1, 1, 0], [0]])

    def test_1_with_examples_that_came(self):
        # Input 0 differs at 0, then the number 1 differs at 1.
        self.assertEqual(run(wish([27, 3, 0]), learn(5), find(5), clear()),
                         [[0], [1, 2, 3, 3, 27, 0, 3], [1, 3, 3, 27, 0, 3], [2]])

    def test_the_first_row_that_differs_comes_with_what_the_wish_is(self):
        # (0, 1) is the first row of which input 0 and the wished sum differ.
        setting = [start(2, 2), wish([27, 0, 1]), lang([], []), learn(1)]
        self.assertEqual(run(*setting)[-1], [0, 2])
        self.assertEqual(run(*setting, example([0, 1], 0), example([0, 1], 1), example([1, 0], 0), example([1, 0], 1),
                             clear())[4:], [[-3], [2], [-3], [2], [2]])

    def test_0_where_none_does_the_examples(self):
        self.assertEqual(run(lang([], []), wish([20, 0]), learn(5), find(5), clear(), example([0], 3), learn(5))[2:],
                         [[0, 1], [0], [1], [1], [0, 0]])

    def test_0_within_most(self):
        for most, expected in [(0, [0, 0]), (1, [0, 2]), (2, [0, 2]), (3, [1, 2, 3, 3, 27, 0, 3])]:
            self.assertEqual(last(wish([27, 3, 0]), learn(most)), expected)

    def test_2_where_one_more_would_come_to_eight(self):
        told = [start(4, 1), wish(BELOW_8)] + [example([a], a) for a in range(8)]
        self.assertEqual(run(*told, learn(5), clear())[-2:], [[2], [8]])

    def test_2_after_what_came(self):
        told = [start(4, 1), wish(BELOW_8), lang([7], [(4, 1)])] + [example([a], a) for a in range(7)]
        self.assertEqual(run(*told, learn(5), example([8], 1), example([8], 0), find(5), clear())[-5:],
                         [[2], [-3], [8], [1, 3, 3, 24, 0, 9], [8]])

    def test_1_with_eight_examples(self):
        told = [start(4, 1), wish([24, 9, 0]), lang([7], [(4, 1)])]
        seven = [example([a], a) for a in range(7)]
        self.assertEqual(run(*told, *seven, learn(5), learn(5), clear())[-3:],
                         [[1, 1, 3, 3, 24, 0, 9], [1, 0, 3, 3, 24, 0, 9], [8]])

    def test_0_with_eight_examples(self):
        told = [start(4, 1), wish(BELOW_8), lang([], [])] + [example([a], a) for a in range(7)]
        self.assertEqual(run(*told, learn(5), learn(5), clear())[-3:], [[0, 1], [0, 0], [8]])

    def test_what_came_stays(self):
        self.assertEqual(run(wish([27, 3, 0]), learn(5), learn(5), example([0], 1), example([1], 2), example([0], 0),
                             clear(), learn(5))[1:],
                         [[1, 2, 3, 3, 27, 0, 3], [1, 0, 3, 3, 27, 0, 3], [2], [2], [-3], [2],
                          [1, 2, 3, 3, 27, 0, 3]])

    def test_only_those_that_came_are_counted(self):
        self.assertEqual(run(wish([27, 3, 0]), example([0], 1), learn(5), clear())[1:],
                         [[1], [1, 1, 3, 3, 27, 0, 3], [2]])

    def test_what_does_the_wish_may_be_told_otherwise(self):
        wished = [20, 21, 0]
        self.assertEqual(last(start(4, 1), wish(wished), lang([1], [(8, 1)]), learn(5)), [1, 1, 3, 3, 28, 0, 3])

    def test_most_above_5_is_refused(self):
        self.assertEqual(run(wish([27, 3, 0]), learn(6), clear(), learn(HIGHEST), clear(), learn(5))[1:],
                         [[-1], [0], [-1], [0], [1, 2, 3, 3, 27, 0, 3]])

    def test_a_wish_that_does_not_do_the_examples_is_refused(self):
        told = [example([0], 0), example([1], 1), example([2], 3)]
        for most in (0, 1, 5):
            self.assertEqual(run(*told, learn(most), clear())[-2:], [[-3], [3]])
        self.assertEqual(last(*told, wish([4]), learn(5)), [-3])

    def test_of_two_refusals_the_one_told_first(self):
        self.assertEqual(last(example([0], 1), learn(6)), [-1])


if __name__ == "__main__":
    unittest.main()
