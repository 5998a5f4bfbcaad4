import unittest

from tests.helper import ARITY, LONGEST_TERMS, cost, example, find, lang, last, no_terms, run, shows, start, wish


class Cost(unittest.TestCase):
    def test_inputs_and_numbers_cost_1(self):
        self.assertEqual(run(cost([0]), cost([3]), start(4, 2), lang([0, 15], []), cost([1]), cost([2]), cost([17])),
                         [[1, 1], [1, 1], [256], [0], [1, 1], [1, 1], [1, 1]])

    def test_each_operation_at_its_own_cost(self):
        for operation, arity in ARITY.items():
            for price in (1, 2, 3):
                self.assertEqual(last(lang([], [(operation, price)]), cost([20 + operation] + [0] * arity)),
                                 [1, price + arity])

    def test_several_operations_in_one_term(self):
        told = [lang([1], [(0, 2), (7, 1), (11, 3)])]
        self.assertEqual(last(*told, cost([31, 20, 0, 27, 0, 3, 3])), [1, 3 + 2 + 1 + 1 + 1 + 1 + 1])
        self.assertEqual(last(*told, cost([20, 20, 20, 0])), [1, 7])
        self.assertEqual(last(*told, cost([27, 27, 0, 0, 27, 3, 3])), [1, 7])

    def test_0_where_an_operation_is_not_let(self):
        for operation, arity in ARITY.items():
            if operation != 7:
                self.assertEqual(run(cost([20 + operation] + [0] * arity)), [[0]])
        self.assertEqual(run(cost([27, 27, 0, 3, 20, 0]), cost([20, 27, 0, 0]), lang([1], []), cost([27, 0, 3])),
                         [[0], [0], [0], [0]])

    def test_0_where_a_number_is_not_let(self):
        self.assertEqual(run(cost([2]), cost([4]), cost([5]), cost([27, 0, 2]), cost([27, 4, 3]), lang([], [(7, 1)]),
                             cost([3]), cost([27, 0, 3]), cost([27, 0, 0])),
                         [[0], [0], [0], [0], [0], [1], [0], [0], [1, 3]])

    def test_an_input_is_of_every_language(self):
        self.assertEqual(run(start(1, 2), lang([], []), cost([0]), cost([1]))[2:], [[1, 1], [1, 1]])

    def test_by_the_language_that_is_there_now(self):
        self.assertEqual(run(cost([27, 0, 3]), lang([1], [(7, 3)]), cost([27, 0, 3]), lang([0], [(7, 3)]),
                             cost([27, 0, 3]), start(2, 1), cost([27, 0, 3])),
                         [[1, 3], [1], [1, 5], [1], [0], [4], [1, 3]])

    def test_above_5(self):
        self.assertEqual(last(lang([], [(0, 3)]), cost([20] * 23 + [0])), [1, 70])
        self.assertEqual(last(lang([1], [(0, 1), (7, 3)]), cost([20] + [27, 3] * 11 + [0])), [1, 1 + 11 * 4 + 1])

    def test_the_longest_terms(self):
        for term in LONGEST_TERMS:
            self.assertEqual(last(lang([1], [(0, 1), (7, 1)]), cost(term)), [1, 24])

    def test_refused_terms_leave_all_as_it_was(self):
        for term in no_terms():
            # With a language that lets all that the term's signs may stand for, and with one that lets nothing.
            for language in (lang([1, 3], [(0, 1), (7, 2), (11, 1)]), lang([], [])):
                before = [language, wish([20, 0]), example([1], 2)]
                plain = run(*before, find(5), cost([27, 0, 3]), cost([0]), shows())
                given = run(*before, cost(term), find(5), cost([27, 0, 3]), cost([0]), shows())
                self.assertEqual(given, plain[:3] + [[-1]] + plain[3:], term)


if __name__ == "__main__":
    unittest.main()
