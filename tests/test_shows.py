import unittest

from tests.helper import clear, example, lang, last, learn, run, shows, start, wish


class Shows(unittest.TestCase):
    def test_no_examples(self):
        self.assertEqual(run(shows(), start(4, 2), shows()), [[0], [256], [0]])

    def test_in_the_order_in_which_they_came(self):
        self.assertEqual(run(example([3], 1), shows(), example([0], 2), shows(), example([1], 3), shows()),
                         [[1], [1, 3, 1], [2], [2, 3, 1, 0, 2], [3], [3, 3, 1, 0, 2, 1, 3]])

    def test_with_two_inputs(self):
        self.assertEqual(last(start(3, 2), example([7, 1], 2), example([1, 7], 3), example([0, 0], 7), shows()),
                         [3, 7, 1, 2, 1, 7, 3, 0, 0, 7])

    def test_eight(self):
        told = [example([15 - a], a) for a in range(8)]
        self.assertEqual(last(start(4, 1), *told, shows()), [8] + [n for a in range(8) for n in (15 - a, a)])

    def test_one_that_is_told_again_stays_where_it_is(self):
        self.assertEqual(last(example([3], 1), example([0], 2), example([3], 1), shows()), [2, 3, 1, 0, 2])

    def test_those_that_learn_brought(self):
        self.assertEqual(run(wish([27, 3, 0]), learn(5), shows())[1:], [[1, 2, 3, 3, 27, 0, 3], [2, 0, 1, 1, 2]])
        self.assertEqual(run(wish([27, 0, 4]), example([3], 1), learn(5), shows())[2:],
                         [[1, 1, 5, 5, 27, 0, 27, 3, 3], [2, 3, 1, 0, 2]])
        self.assertEqual(run(start(2, 2), wish([27, 0, 1]), lang([], []), learn(1), shows())[3:],
                         [[0, 2], [2, 0, 1, 1, 1, 0, 1]])

    def test_those_of_a_learn_that_came_to_eight(self):
        told = [start(4, 1), wish([31, 30, 0, 10, 0, 2]), lang([7], [(4, 1)])] + [example([a], a) for a in range(7)]
        self.assertEqual(run(*told, learn(5), shows())[-2:],
                         [[2], [8, 0, 0, 1, 1, 2, 2, 3, 3, 4, 4, 5, 5, 6, 6, 8, 0]])

    def test_after_clear_start_and_lang(self):
        told = [example([1], 2), example([0], 3)]
        self.assertEqual(last(*told, clear(), shows()), [0])
        self.assertEqual(last(*told, clear(), example([0], 1), shows()), [1, 0, 1])
        self.assertEqual(last(*told, start(2, 1), shows()), [0])
        self.assertEqual(last(*told, lang([], []), wish([3]), shows()), [2, 1, 2, 0, 3])

    def test_after_a_refusal(self):
        told = [example([1], 2), example([0], 3)]
        for refused in (example([1], 3), example([4], 0), example([2, 2], 0), example([2], 4), example([], 0),
                        learn(5), learn(6), start(5, 1), lang([4], []), wish([1])):
            given = run(*told, refused, shows())[2:]
            self.assertLess(given[0][0], 0)
            self.assertEqual(given[1], [2, 1, 2, 0, 3])
        eight = [start(4, 1)] + [example([a], 0) for a in range(8)]
        self.assertEqual(run(*eight, example([8], 0), shows())[-2:],
                         [[-5], [8] + [n for a in range(8) for n in (a, 0)]])

    def test_nothing_comes_of_it(self):
        self.assertEqual(run(example([1], 2), shows(), shows(), example([0], 0), clear()),
                         [[1], [1, 1, 2], [1, 1, 2], [2], [2]])


if __name__ == "__main__":
    unittest.main()
