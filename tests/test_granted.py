"""Which rows of numbers are terms: the same for wish, check, cost and value, by what is there now."""

import unittest

from tests.helper import (ARITY, HIGHEST, LONGEST_TERMS, NO_TERMS, best, check, classes, cost, example, find, lang,
                          last, learn, run, shows, start, value, wish)

LETS_NOTHING = lang([], [])
LETS_SOME = lang([1], [(0, 1), (7, 1), (11, 1)])


def askings(term, k):
    return [wish(term), check(term), cost(term), value([0] * k, term)]


class Granted(unittest.TestCase):
    def assert_refused(self, setting, term, k):
        for asking in askings(term, k):
            self.assertEqual(last(*setting, asking), [-1], (setting, term, asking[0]))

    def assert_granted(self, setting, term, k):
        for asking in askings(term, k):
            self.assertGreaterEqual(last(*setting, asking)[0], 0, (setting, term, asking[0]))

    def test_no_terms(self):
        for kind, terms in NO_TERMS.items():
            with self.subTest(kind):
                for term in terms:
                    self.assert_refused([], term, 1)
                    self.assert_refused([LETS_SOME], term, 1)
                    self.assert_refused([LETS_NOTHING], term, 1)

    def test_24_numbers_and_more(self):
        for length in range(1, 31):
            row = [20] * (length - 1) + [0]
            if length <= 24:
                self.assert_granted([], row, 1)
            else:
                self.assert_refused([], row, 1)
        for term in LONGEST_TERMS:
            self.assert_granted([LETS_NOTHING], term, 1)

    def test_every_operation_with_its_terms_one_fewer_and_one_more(self):
        for operation, arity in ARITY.items():
            self.assert_granted([], [20 + operation] + [0] * arity, 1)
            self.assert_refused([], [20 + operation] + [0] * (arity - 1), 1)
            self.assert_refused([], [20 + operation] + [0] * (arity + 1), 1)

    def test_signs_by_w_and_k(self):
        for w in (1, 2, 3, 4):
            for k in (1, 2):
                there = list(range(k)) + [2 + number for number in range(2 ** w)]
                for sign in list(range(20)) + [32, 33, HIGHEST]:
                    for term in ([sign], [20, sign], [27, 0, sign]):
                        if sign in there:
                            self.assert_granted([start(w, k)], term, k)
                        else:
                            self.assert_refused([start(w, k)], term, k)

    def test_after_start_has_changed_what_is_there(self):
        self.assert_refused([start(4, 2), wish([27, 1, 17]), start(4, 1)], [1], 1)
        self.assert_refused([start(4, 2), wish([27, 1, 17]), start(1, 2)], [4], 2)
        self.assert_granted([start(1, 1), start(4, 2)], [27, 1, 17], 2)
        # A start that is refused changes nothing.
        self.assert_granted([start(4, 2), start(1, 3)], [27, 1, 17], 2)
        self.assert_refused([start(5, 2)], [1], 1)

    def test_what_is_let_does_not_matter(self):
        for language in (LETS_NOTHING, LETS_SOME, lang([3, 0], [(1, 3)])):
            self.assert_granted([language], [31, 20, 0, 2, 29, 5, 4], 1)
            self.assert_refused([language], [31, 20, 0, 2, 29, 5, 6], 1)

    def test_refused_most_by_what_is_there_now(self):
        for setting in ([], [start(4, 2)], [LETS_NOTHING], [start(1, 1), LETS_SOME]):
            for asking in (find, learn, best, classes):
                for most in (6, 7, HIGHEST):
                    self.assertEqual(last(*setting, asking(most)), [-1])
                for most in range(6):
                    self.assertGreaterEqual(last(*setting, asking(most))[0], 0)

    def test_after_each_refusal_all_is_as_it_was(self):
        before = [start(3, 2), lang([3], [(8, 1), (0, 2)]), wish([28, 0, 5]), example([4, 1], 1), example([0, 7], 5)]
        after = [shows(), best(5), find(5), classes(5), check([28, 0, 1]), cost([28, 20, 0, 5]), value([7, 1], [20, 1]),
                 learn(5), shows()]
        plain = run(*before, *after)
        for refused in (check([]), check([10]), check([28, 0]), cost([0, 0]), cost([32, 0]), cost([20] * 24 + [0]),
                        value([0], [0]), value([0, 8], [0]), value([0, 0, 0], [0]), value([0, 0], [28, 0]), best(6),
                        classes(6), wish([10]), find(6), learn(6), start(5, 2), lang([8], []), example([4, 1], 2)):
            given = run(*before, refused, *after)
            self.assertLess(given[5][0], 0)
            self.assertEqual(given[:5] + given[6:], plain)
        self.assertEqual(plain[5:], [[2, 4, 1, 1, 0, 7, 5], [1, 3, 3, 28, 0, 5], [1, 3, 3, 28, 0, 5],
                                     [5, 3, 0, 10, 0, 17], [0, 0, 0], [1, 5], [6], [1, 0, 3, 3, 28, 0, 5],
                                     [2, 4, 1, 1, 0, 7, 5]])


if __name__ == "__main__":
    unittest.main()
