import itertools
import unittest

from tests.helper import ARITY, HIGHEST, clear, example, lang, last, learn, operate, run, start, wish


def wish_is(setting, inputs, out):
    """Whether the line's wish is out of the inputs: else learn refuses the example."""
    return last(*setting, clear(), example(inputs, out), learn(0)) == [0, 0]


class WishedTerms(unittest.TestCase):
    def test_answers_0(self):
        self.assertEqual(run(wish([0]), wish([5]), wish([27, 0, 3]), wish([31, 0, 2, 20, 0])), [[0]] * 4)

    def test_operations_and_numbers_that_the_language_does_not_let(self):
        nothing = [lang([], [])]
        self.assertTrue(wish_is(nothing + [wish([29, 0, 5])], [3], 1))
        self.assertFalse(wish_is(nothing + [wish([29, 0, 5])], [3], 0))
        for operation, arity in ARITY.items():
            self.assertEqual(last(*nothing, wish([20 + operation] + [0] * arity)), [0])

    def test_the_last_one_told_is_the_wish(self):
        self.assertTrue(wish_is([wish([20, 0]), wish([4])], [0], 2))

    def test_24_numbers_and_more(self):
        for length in (23, 24):
            self.assertEqual(run(wish([20] * (length - 1) + [0])), [[0]])
        for length in (25, 26, 30):
            self.assertEqual(run(wish([20] * (length - 1) + [0])), [[-1]])
        self.assertEqual(run(wish([20] + [27, 3] * 11 + [0])), [[0]])
        self.assertEqual(run(wish([27, 3] * 12 + [0])), [[-1]])
        self.assertTrue(wish_is([wish([20] + [27, 3] * 11 + [0])], [0], 0))
        self.assertTrue(wish_is([wish([20] * 23 + [0])], [1], 2))

    def test_cut_short(self):
        for term in ([], [20], [27, 0], [31, 0, 0], [27, 27, 0, 0], [27, 20, 0], [20] * 24):
            self.assertEqual(run(wish(term)), [[-1]], term)

    def test_numbers_left_over(self):
        for term in ([0, 0], [20, 0, 0], [27, 0, 0, 0], [31, 0, 0, 0, 3], [0, 20], [3, 20, 0]):
            self.assertEqual(run(wish(term)), [[-1]], term)

    def test_inputs_that_are_not_there(self):
        self.assertEqual(run(wish([1]), wish([27, 0, 1]), start(2, 2), wish([1]), wish([27, 0, 1])),
                         [[-1], [-1], [16], [0], [0]])

    def test_numbers_that_are_not_there(self):
        for w in (1, 2, 3, 4):
            top = 2 ** w
            given = run(start(w, 2), *[wish([sign]) for sign in range(2, 20)], wish([27, 0, 1 + top]),
                        wish([27, 0, 2 + top]))
            self.assertEqual(given[1:], [[0]] * top + [[-1]] * (18 - top) + [[0], [-1]])

    def test_operations_that_are_not_there(self):
        self.assertEqual(run(wish([31, 0, 0, 0]), wish([32, 0]), wish([32, 0, 0]), wish([HIGHEST]),
                             wish([20, HIGHEST])), [[0], [-1], [-1], [-1], [-1]])

    def test_after_a_refusal_the_wish_is_as_it_was(self):
        for refused in ([], [27, 0], [0, 0], [1], [6], [32, 0], [20] * 24 + [0]):
            setting = [wish([20, 0]), wish(refused)]
            self.assertEqual(run(*setting)[1], [-1])
            for a in range(4):
                self.assertTrue(wish_is(setting, [a], 3 - a))

    def test_examples_stay(self):
        self.assertEqual(run(example([1], 1), wish([20, 0]), clear())[1:], [[0], [1]])

    def test_terms_stand_in_order_behind_an_operation(self):
        # pick (0 less input 0) (input 0 minus 1) (not 0): other orders of the parts make other words.
        setting = [start(3, 1), wish([31, 30, 2, 0, 28, 0, 3, 20, 2])]
        for a in range(8):
            self.assertTrue(wish_is(setting, [a], a - 1 if a > 0 else 7))


class Operations(unittest.TestCase):
    """Each operation on all words of each width: the wish does an example only if it's that."""

    def check(self, w, operation, words):
        k = min(len(words), 2)
        parts = [0, 1][:k] if len(words) < 3 else [2 + words[0], 0, 1]
        told = list(words[-k:])
        right = operate(operation, w, words)
        for out in {right, (right + 1) % 2 ** w, right ^ (2 ** w - 1)}:
            given = last(start(w, k), wish([20 + operation] + parts), example(told, out), learn(0))
            self.assertEqual(given, [0, 0] if out == right else [-3], (w, operation, words, out))

    def test_operations_on_all_words(self):
        for w in (1, 2, 3):
            for operation, arity in ARITY.items():
                for words in itertools.product(range(2 ** w), repeat=arity):
                    self.check(w, operation, words)

    def test_operations_on_words_of_four_bits(self):
        for operation, arity in ARITY.items():
            words_told = range(16) if arity < 3 else (0, 1, 7, 15)
            for words in itertools.product(words_told, repeat=arity):
                self.check(4, operation, words)

    def test_some_words_by_hand(self):
        by_hand = [(0, [5], 10), (1, [5], 11), (1, [0], 0), (2, [9], 2), (3, [9], 4), (4, [12, 10], 8),
                   (5, [12, 10], 14), (6, [12, 10], 6), (7, [12, 10], 6), (8, [10, 12], 14), (9, [5, 7], 3),
                   (10, [3, 4], 1), (10, [4, 4], 0), (10, [5, 4], 0)]
        for operation, words, out in by_hand:
            setting = [start(4, len(words)), wish([20 + operation] + [0, 1][:len(words)])]
            self.assertTrue(wish_is(setting, words, out), operation)
        for condition, out in [(2, 9), (3, 6), (17, 6)]:
            self.assertTrue(wish_is([start(4, 2), wish([31, condition, 0, 1])], [6, 9], out))


if __name__ == "__main__":
    unittest.main()
