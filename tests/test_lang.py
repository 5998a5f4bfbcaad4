import unittest

from tests.helper import HIGHEST, clear, example, find, lang, last, learn, run, start, wish


class Lang(unittest.TestCase):
    def test_answers_how_many_operations_are_let(self):
        for count in range(6):
            self.assertEqual(run(lang([3, 0], [(n, 1 + n % 3) for n in range(count)])), [[count]])

    def test_every_operation_and_cost_there_is(self):
        for operation in range(12):
            for cost in (1, 2, 3):
                self.assertEqual(run(lang([], [(operation, cost)])), [[1]])

    def test_those_told_and_no_others(self):
        sums = [example([0], 2)]
        self.assertEqual(last(*sums, find(5)), [1, 3, 3, 27, 3, 3])
        self.assertEqual(last(*sums, lang([1], []), find(5)), [0])
        self.assertEqual(last(*sums, lang([], [(7, 1)]), find(5)), [0])
        self.assertEqual(last(*sums, lang([2], []), find(5)), [1, 1, 1, 4])
        self.assertEqual(last(*sums, lang([2], []), lang([3], [(2, 1)]), find(5)), [1, 2, 2, 22, 5])

    def test_costs_are_those_told(self):
        for cost in (1, 2, 3):
            self.assertEqual(last(lang([], [(0, cost)]), example([0], 3), find(5)), [1, 1 + cost, 2, 20, 0])
            self.assertEqual(last(lang([], [(0, cost)]), example([0], 3), find(cost)), [0])

    def test_wish_and_examples_stay(self):
        given = run(wish([20, 0]), example([1], 2), lang([], [(0, 1)]), learn(5), clear())
        self.assertEqual(given, [[0], [1], [1], [1, 0, 2, 2, 20, 0], [1]])

    def test_more_than_two_numbers(self):
        self.assertEqual(run(lang([0, 1], []), lang([0, 1, 2], []), lang([0, 1, 2, 3, 0], [])), [[0], [-1], [-1]])

    def test_more_than_five_operations(self):
        six = [(n, 1) for n in range(6)]
        self.assertEqual(run(lang([], six[:5]), lang([], six), lang([], six + [(6, 1)])), [[5], [-1], [-1]])

    def test_one_told_twice(self):
        self.assertEqual(run(lang([2, 2], [])), [[-1]])
        self.assertEqual(run(lang([], [(7, 1), (7, 1)])), [[-1]])
        self.assertEqual(run(lang([], [(7, 1), (4, 2), (7, 3)])), [[-1]])

    def test_a_number_that_is_not_there(self):
        for w in (1, 2, 3, 4):
            top = 2 ** w
            self.assertEqual(run(start(w, 1), lang([top - 1], []), lang([top], []), lang([0, top], []),
                                 lang([HIGHEST], []))[1:], [[0], [-1], [-1], [-1]])

    def test_an_operation_that_is_not_there(self):
        self.assertEqual(run(lang([], [(11, 1)]), lang([], [(12, 1)]), lang([], [(0, 1), (HIGHEST, 1)]),
                             lang([], [(27, 1)])), [[1], [-1], [-1], [-1]])

    def test_a_cost_that_is_not_granted(self):
        self.assertEqual(run(lang([], [(7, 0)]), lang([], [(7, 4)]), lang([], [(7, 3), (0, HIGHEST)])), [[-1]] * 3)

    def test_after_a_refusal_the_language_is_as_it_was(self):
        before = [lang([3], [(6, 2)]), example([0], 3), example([1], 2)]
        self.assertEqual(last(*before, find(5)), [1, 4, 3, 26, 0, 5])
        for refused in (lang([1, 1], []), lang([1], [(7, 4)]), lang([4], [(7, 1)]), lang([0, 1, 2], [])):
            self.assertEqual(run(*before, refused, find(5), clear())[-3:], [[-1], [1, 4, 3, 26, 0, 5], [2]])


if __name__ == "__main__":
    unittest.main()
