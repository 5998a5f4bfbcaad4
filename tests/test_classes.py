import unittest

from tests.helper import HIGHEST, classes, clear, example, find, lang, last, learn, run, shows, start, wish

ALL_FOUR = [example([a], 0) for a in range(4)]


class Classes(unittest.TestCase):
    def test_most_then_most_numbers(self):
        # Of all inputs: input 0 and 1; their three sums of two; their four sums of three.
        for most in range(6):
            self.assertEqual(last(*ALL_FOUR, classes(most)), [most] + [2, 0, 3, 0, 4][:most])

    def test_of_one_example(self):
        self.assertEqual(last(example([0], 0), classes(5)), [5, 2, 0, 1, 0, 1])
        self.assertEqual(last(example([1], 0), classes(5)), [5, 1, 0, 1, 0, 1])
        self.assertEqual(last(example([3], 0), classes(5)), [5, 2, 0, 2, 0, 0])

    def test_of_no_examples_they_are_all_alike(self):
        for most in range(6):
            self.assertEqual(run(classes(most)), [[most] + [1, 0, 0, 0, 0][:most]])
        self.assertEqual(run(start(4, 2), lang([3, 9], [(0, 1), (7, 1), (11, 1)]), classes(5), example([1, 2], 3),
                             clear(), classes(5))[2::3], [[5, 1, 0, 0, 0, 0]] * 2)

    def test_a_thing_that_a_cheaper_term_makes_is_not_counted_again(self):
        self.assertEqual(last(lang([], [(0, 1)]), *ALL_FOUR, classes(5)), [5, 1, 1, 0, 0, 0])
        self.assertEqual(last(lang([0], [(0, 1)]), example([0], 1), classes(5)), [5, 1, 1, 0, 0, 0])
        self.assertEqual(last(lang([], [(2, 1)]), *ALL_FOUR, classes(5)), [5, 1, 1, 1, 0, 0])

    def test_a_thing_that_two_terms_of_a_cost_make_is_counted_once(self):
        # Of 2 the input and the number 2 are alike.
        self.assertEqual(last(lang([2], []), example([2], 0), classes(1)), [1, 1])
        self.assertEqual(last(lang([2], []), example([1], 0), classes(1)), [1, 2])
        self.assertEqual(last(lang([], [(0, 1), (1, 1)]), example([0], 0), classes(2)), [2, 1, 1])
        self.assertEqual(last(start(2, 2), lang([], []), example([1, 1], 0), classes(1)), [1, 1])
        self.assertEqual(last(start(2, 2), lang([], []), example([1, 0], 0), classes(1)), [1, 2])

    def test_things_are_rows_not_single_words(self):
        self.assertEqual(last(lang([], [(0, 1)]), example([1], 0), example([2], 0), classes(2)), [2, 1, 1])
        self.assertEqual(last(lang([1, 2], []), example([1], 0), example([2], 0), classes(1)), [1, 3])

    def test_costs_at_which_nothing_new_comes(self):
        self.assertEqual(last(lang([1], [(7, 3)]), example([0], 0), classes(5)), [5, 2, 0, 0, 0, 1])
        self.assertEqual(last(lang([1], [(7, 2)]), example([0], 0), classes(5)), [5, 2, 0, 0, 1, 0])
        self.assertEqual(last(lang([], [(0, 3)]), example([0], 0), classes(5)), [5, 1, 0, 0, 1, 0])
        # Nothing at cost 2, 3 and 4, and none that is new at cost 5.
        self.assertEqual(last(lang([], [(4, 3)]), example([1], 0), classes(5)), [5, 1, 0, 0, 0, 0])

    def test_operations_of_three(self):
        told = [start(2, 2), example([0, 1], 0), example([1, 0], 0), example([1, 2], 0)]
        # By the inputs: pick 0 0 1, 0 1 0, 1 0 1, 1 1 0; the others make one of their parts.
        self.assertEqual(last(*told, lang([], [(11, 1)]), classes(5)), [5, 2, 0, 0, 4, 0])
        self.assertEqual(last(*told, lang([], [(11, 2)]), classes(5)), [5, 2, 0, 0, 0, 4])
        self.assertEqual(last(*told, lang([], [(11, 3)]), classes(5)), [5, 2, 0, 0, 0, 0])

    def test_the_outs_and_the_wish_play_no_part(self):
        for out in range(4):
            self.assertEqual(last(wish([20, 2 + out]), example([3], out), classes(5)), [5, 2, 0, 2, 0, 0])

    def test_most_0(self):
        self.assertEqual(run(classes(0), example([1], 1), classes(0)), [[0], [1], [0]])

    def test_most_above_5_is_refused(self):
        self.assertEqual(run(classes(5), classes(6), classes(HIGHEST)), [[5, 1, 0, 0, 0, 0], [-1], [-1]])

    def test_no_operations(self):
        self.assertEqual(last(lang([0, 3], []), example([1], 0), classes(5)), [5, 3, 0, 0, 0, 0])
        self.assertEqual(last(lang([0, 3], []), example([3], 0), classes(5)), [5, 2, 0, 0, 0, 0])

    def test_no_numbers(self):
        self.assertEqual(last(lang([], [(8, 1)]), example([1], 0), classes(5)), [5, 1, 0, 1, 0, 1])

    def test_neither(self):
        self.assertEqual(last(lang([], []), example([1], 0), classes(5)), [5, 1, 0, 0, 0, 0])
        self.assertEqual(last(start(2, 2), lang([], []), example([1, 0], 0), classes(5)), [5, 2, 0, 0, 0, 0])

    def test_of_examples_that_learn_brought(self):
        self.assertEqual(run(wish([27, 3, 0]), learn(5), shows(), classes(5))[1:],
                         [[1, 2, 3, 3, 27, 0, 3], [2, 0, 1, 1, 2], [5, 2, 0, 3, 0, 4]])

    def test_nothing_comes_of_it_nor_of_a_refusal(self):
        for most in (5, 6):
            self.assertEqual(run(example([0], 2), classes(most), find(5), shows(), classes(3))[2:],
                             [[1, 3, 3, 27, 3, 3], [1, 0, 2], [3, 2, 0, 1]])

    def test_after_start_and_lang(self):
        told = [example([1], 0), example([0], 0)]
        self.assertEqual(run(*ALL_FOUR, start(1, 1), classes(2), *told, classes(5), lang([], [(0, 2)]), classes(5))[5:],
                         [[2, 1, 0], [1], [2], [5, 2, 0, 2, 0, 0], [1], [5, 1, 0, 1, 0, 0]])


if __name__ == "__main__":
    unittest.main()
