"""Long lines and dear searches, and many lines held against the plain model of the helper."""

import random
import unittest

from tests import helper
from tests.helper import (Model, best, check, classes, clear, cost, example, find, lang, last, learn, run, shows, start,
                          value, wish)

DEAREST = [
    [(7, 1), (8, 1), (9, 1), (6, 1), (10, 1)],
    [(0, 1), (2, 1), (3, 1), (7, 1), (11, 1)],
    [(1, 1), (4, 1), (5, 1), (8, 1), (11, 1)],
]
# Rows that tell most terms apart, with outs that no term of cost 5 makes of them.
EIGHT = [example([5 * n % 16, 11 * n % 16], n * n * n % 7) for n in range(1, 9)]
# A product of the two inputs and a shifted xor: none of the languages above has it at cost 5.
FAR_WISH = [26, 29, 0, 1, 23, 27, 29, 0, 0, 20, 1]
# Languages and wishes for which learn comes to eight examples, and what it answers then.
LEARNT_BY_EIGHT = [
    (DEAREST[0], [30, 31, 23, 0, 31, 0, 1, 1, 0, 26, 22, 7, 20, 0], [0, 8]),
    (DEAREST[0], [24, 21, 28, 14, 15, 30, 31, 1, 1, 1, 27, 0, 1], [1, 8, 5, 5, 30, 1, 27, 0, 1]),
    (DEAREST[0], [30, 30, 23, 6, 0, 1], [2]),
    (DEAREST[1], [24, 22, 21, 1, 23, 0], [2]),
    (DEAREST[2], [22, 23, 0], [0, 8]),
]
# Five operations that make the most terms, or the most things, of all rows of inputs.
DEAREST_OF_ALL_INPUTS = DEAREST + [
    [(1, 1), (3, 1), (8, 1), (9, 1), (10, 1)],
    [(1, 1), (3, 1), (7, 1), (8, 1), (11, 1)],
]


def ask(model, name, *told):
    return getattr(model, name)(*told)


class Long(unittest.TestCase):
    def test_forty_calls(self):
        calls = [example([n % 4], n % 4) for n in range(38)] + [find(5), clear()]
        self.assertEqual(run(*calls), [[min(n + 1, 4)] for n in range(38)] + [[1, 1, 1, 0], [4]])

    def test_forty_calls_of_the_longest_kind(self):
        term = [20] * 23 + [0]
        calls = [wish(term + [0] * (n % 7)) for n in range(40)]
        self.assertEqual(run(*calls), [[0] if n % 7 == 0 else [-1] for n in range(40)])

    def test_the_dearest_searches_to_forty_calls(self):
        for operations in DEAREST:
            told = [start(4, 2), lang([3, 9], operations)] + EIGHT
            given = run(*told, *[find(5) for _ in range(30)])
            self.assertEqual(given[:10], [[256], [5]] + [[n] for n in range(1, 9)])
            self.assertEqual(given[10:], [[0]] * 30)

    def test_the_dearest_learning_time_and_again(self):
        for operations, term, answer in LEARNT_BY_EIGHT:
            told = [start(4, 2), lang([3, 9], operations), wish(term)]
            given = run(*told, *[call for _ in range(18) for call in (learn(5), clear())])
            self.assertEqual(given[3:], [answer, [8]] * 18)

    def test_the_dearest_best_forty_times(self):
        for operations in DEAREST_OF_ALL_INPUTS:
            told = [start(4, 2), lang([3, 9], operations), wish(FAR_WISH)]
            self.assertEqual(run(*told, *[best(5) for _ in range(37)]), [[256], [5], [0]] + [[0]] * 37)

    def test_the_dearest_classes_forty_times(self):
        for operations in DEAREST_OF_ALL_INPUTS:
            model = Model()
            calls = [("start", 4, 2), ("lang", [3, 9], operations)]
            calls.extend([("example", told[3:], told[1]) for told in EIGHT])
            expected = [ask(model, *call) for call in calls + [("classes", 5)]]
            given = run(start(4, 2), lang([3, 9], operations), *EIGHT, *[classes(5) for _ in range(30)])
            self.assertEqual(given, expected + [expected[-1]] * 29)

    def test_best_and_classes_in_turn_with_changing_languages(self):
        calls = [start(4, 2), wish(FAR_WISH)] + EIGHT
        for turn in range(10):
            calls.extend([lang([3, 9], DEAREST_OF_ALL_INPUTS[turn % 5]), best(5), classes(5)])
        given = run(*calls)
        self.assertEqual(given[10::3], [[5]] * 10)
        self.assertEqual(given[11::3], [[0]] * 10)
        self.assertEqual(given[12:27:3], given[27::3])

    def test_forty_calls_of_all_kinds(self):
        thirteen = [start(4, 2), lang([3, 9], DEAREST[0]), wish([27, 11, 28, 0, 1]), example([1, 1], 9), learn(5),
                    find(5), best(5), check([27, 0, 28, 11, 1]), classes(2), cost([27, 0, 28, 11, 1]),
                    value([5, 6], [27, 0, 28, 11, 1]), shows(), clear()]
        given = run(*thirteen, *thirteen, *thirteen, shows())
        self.assertEqual(given[:13], given[13:26])
        self.assertEqual(given[:13], given[26:39])
        self.assertEqual(given[6:11], [[1, 5, 5, 27, 0, 28, 11, 1], [1], [2, 4, 0], [1, 5], [8]])
        self.assertEqual(given[39], [0])

    def test_the_dearest_searches_are_right(self):
        for operations in DEAREST:
            wishes = [term for _, term, _ in LEARNT_BY_EIGHT]
            for term in wishes + [FAR_WISH, [27, 0, 28, 1, 5], [31, 0, 1, 20, 1], [28, 0, 24, 1, 11],
                                  [26, 0, 29, 1, 5]]:
                model = Model()
                calls = [("start", 4, 2), ("lang", [3, 9], operations), ("wish", term), ("learn", 5), ("find", 5),
                         ("best", 5), ("classes", 5), ("shows",)]
                expected = [ask(model, *call) for call in calls]
                self.assertEqual(run(*[getattr(helper, call[0])(*call[1:]) for call in calls]), expected)

    def test_a_term_of_the_dearest_cost(self):
        operations = DEAREST[0]
        self.assertEqual(last(start(4, 2), lang([3, 9], operations), wish([29, 28, 0, 1, 27, 0, 1]), learn(5))[0], 0)
        found = last(start(4, 2), lang([3, 9], operations), wish([27, 11, 28, 0, 1]), learn(5))
        self.assertEqual(found[0], 1)
        self.assertEqual(found[2:], [5, 5, 27, 0, 28, 11, 1])


class Sample:
    """Draws calls, most of them granted, from a source that draws the same each time."""

    def __init__(self, seed):
        self.source = random.Random(seed)
        self.w, self.k = 2, 1

    def word(self):
        return self.source.randrange(2 ** self.w + (self.source.random() < 0.03))

    def term(self, depth):
        operation = self.source.randrange(12)
        if depth == 0 or self.source.random() < 0.3:
            inputs = self.source.randrange(self.k + (self.source.random() < 0.03))
            return [inputs] if self.source.random() < 0.7 else [2 + self.word()]
        parts = [self.term(depth - 1) for _ in range(helper.ARITY[operation])]
        return [20 + operation] + [sign for part in parts for sign in part]

    def start(self):
        w, k = self.source.choice([1, 1, 2, 2, 2, 3, 4, 5]), self.source.choice([1, 1, 1, 2, 2, 3])
        if w < 5 and k < 3:
            self.w, self.k = w, k
        return ("start", w, k)

    def lang(self):
        names = self.source.sample(range(12), self.source.choice([0, 1, 2, 2, 3, 3, 4, 5, 6]))
        numbers = [self.word() for _ in range(self.source.choice([0, 1, 1, 2, 2, 3]))]
        return ("lang", numbers, [(name, self.source.choice([1, 1, 1, 1, 2, 2, 3])) for name in names])

    def example(self):
        count = self.k if self.source.random() < 0.95 else self.source.randrange(5)
        return ("example", [self.word() for _ in range(count)], self.word())

    def wish(self):
        term = self.term(self.source.choice([0, 1, 1, 2, 2, 3]))
        if self.source.random() < 0.05:
            term = term[:-1]
        return ("wish", term[:30])

    def check(self):
        return ("check", self.wish()[1])

    def cost(self):
        return ("cost", self.wish()[1])

    def value(self):
        return ("value", self.example()[1], self.wish()[1])

    def call(self, names):
        name = self.source.choice(names)
        if name in ("clear", "shows"):
            return (name,)
        if name in ("find", "learn", "best", "classes"):
            return (name, self.source.choice([0, 1, 2, 3, 3, 4, 4, 5, 5, 5, 6]))
        return getattr(self, name)()


FIRST_SEVEN = ["start", "lang", "lang", "example", "example", "clear", "wish", "find", "find",
               "learn", "learn", "learn"]
ALL_KINDS = ["start", "lang", "lang", "example", "example", "example", "clear", "wish", "wish", "find", "learn", "best",
             "best", "check", "check", "classes", "classes", "cost", "cost", "value", "value", "shows"]


class AgainstTheModel(unittest.TestCase):
    def kinds_reached(self, names, seeds):
        """Holds a line for each seed against the model, and gives back which sorts of answers came."""
        kinds = {}
        for seed in seeds:
            sample = Sample(seed)
            calls = [sample.call(names) for _ in range(1 + seed % 40)]
            model = Model()
            expected = [ask(model, *call) for call in calls]
            given = run(*[getattr(helper, call[0])(*call[1:]) for call in calls])
            self.assertEqual(given, expected, calls)
            for call, answer in zip(calls, given):
                told = call[0] in ("find", "learn", "best", "check", "cost")
                kinds[(call[0], answer[0] if told else min(answer[0], 0))] = True
        return kinds

    def test_many_lines(self):
        kinds = self.kinds_reached(FIRST_SEVEN, range(150))
        # The lines are worth something only if they reach each sort of answer.
        wanted = [("start", -1), ("lang", -1), ("example", -1), ("example", -3), ("wish", -1), ("find", -1),
                  ("learn", -1), ("learn", -3), ("find", 0), ("find", 1), ("learn", 0), ("learn", 1)]
        self.assertEqual([kind for kind in wanted if kind not in kinds], [])

    def test_many_lines_of_all_kinds(self):
        kinds = self.kinds_reached(ALL_KINDS, range(2000, 2300))
        wanted = [("best", -1), ("best", 0), ("best", 1), ("check", -1), ("check", 0), ("check", 1), ("classes", -1),
                  ("classes", 0), ("cost", -1), ("cost", 0), ("cost", 1), ("value", -1), ("value", 0), ("shows", 0)]
        self.assertEqual([kind for kind in wanted if kind not in kinds], [])

    def test_full_lines(self):
        kinds = {}
        for seed in range(25):
            sample = Sample(1000 + seed)
            sample.w, sample.k = 3 + seed % 2, 1 + seed // 2 % 2
            calls = [("start", sample.w, sample.k), sample.lang(), sample.wish()]
            wished = helper.read_term(calls[2][1], sample.w, sample.k)
            for _ in range(7 + seed % 4):
                row = [sample.source.randrange(2 ** sample.w) for _ in range(sample.k)]
                out = sample.word() if wished is None else helper.tree_value(wished, sample.w, row)
                calls.append(("example", row, out))
            calls.extend([("find", 5), ("classes", 5), ("learn", 5), ("shows",), ("classes", 5), ("find", 4),
                          ("clear",), ("learn", 5), ("shows",), ("best", 5), ("classes", 5), sample.example(),
                          ("clear",)])
            model = Model()
            expected = [ask(model, *call) for call in calls]
            given = run(*[getattr(helper, call[0])(*call[1:]) for call in calls])
            self.assertEqual(given, expected, calls)
            for call, answer in zip(calls, given):
                kinds[(call[0], answer[0])] = True
        self.assertIn(("example", -5), kinds)
        self.assertIn(("example", 8), kinds)


if __name__ == "__main__":
    unittest.main()
