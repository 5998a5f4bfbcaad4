import unittest

from tests.helper import HIGHEST, clear, example, find, last, learn, run, start, wish

EIGHT = [start(4, 1)] + [example([a], a) for a in range(8)]


class Example(unittest.TestCase):
    def test_answers_how_many_there_are_then(self):
        self.assertEqual(run(example([0], 1), example([3], 1), example([1], 0)), [[1], [2], [3]])

    def test_one_that_is_there_already_is_not_taken_again(self):
        self.assertEqual(run(example([0], 1), example([2], 2), example([0], 1), clear()), [[1], [2], [2], [2]])

    def test_inputs_in_another_order_are_others(self):
        self.assertEqual(run(start(2, 2), example([0, 1], 1), example([1, 0], 2), clear())[1:], [[1], [2], [2]])

    def test_another_out_for_the_same_inputs(self):
        given = run(example([2], 1), example([2], 0), example([2], 1), find(1), clear())
        self.assertEqual(given, [[1], [-3], [1], [1, 1, 1, 3], [1]])

    def test_not_k_inputs(self):
        for k in (1, 2):
            for count in range(5):
                expected = [1] if count == k else [-1]
                self.assertEqual(run(start(2, k), example([0] * count, 0), clear())[1:], [expected, [int(count == k)]])

    def test_inputs_and_out_beyond_the_words(self):
        self.assertEqual(run(start(3, 2), example([8, 0], 0), example([0, 8], 0), example([0, 0], 8),
                             example([HIGHEST, 0], 0), example([0, 0], HIGHEST), example([7, 7], 7))[1:],
                         [[-1]] * 5 + [[1]])

    def test_the_eighth_and_the_ninth(self):
        self.assertEqual(run(*EIGHT, example([8], 8), clear()), [[16]] + [[n] for n in range(1, 9)] + [[-5], [8]])

    def test_one_of_the_eight_again(self):
        self.assertEqual(run(*EIGHT, example([0], 0), example([7], 7), clear())[-3:], [[8], [8], [8]])

    def test_of_several_refusals_the_one_told_first(self):
        self.assertEqual(last(*EIGHT, example([16], 0)), [-1])
        self.assertEqual(last(*EIGHT, example([9], 16)), [-1])
        self.assertEqual(last(*EIGHT, example([], 0)), [-1])
        self.assertEqual(last(*EIGHT, example([3], 4)), [-3])
        self.assertEqual(last(example([1], 1), example([1], 4)), [-1])

    def test_after_a_refusal_the_examples_are_as_they_were(self):
        before = [example([0], 1), example([1], 2)]
        for refused in (example([4], 0), example([2, 2], 0), example([2], 4), example([0], 2)):
            given = run(*before, refused, find(5), clear())
            self.assertLess(given[2][0], 0)
            self.assertEqual(given[3:], [[1, 3, 3, 27, 0, 3], [2]])

    def test_a_refused_ninth_is_not_kept(self):
        self.assertEqual(run(*EIGHT, example([8], 0), find(1), learn(1))[-3:], [[-5], [1, 1, 1, 0], [1, 0, 1, 1, 0]])


class Clear(unittest.TestCase):
    def test_answers_how_many_there_were(self):
        self.assertEqual(run(clear(), example([0], 1), example([1], 1), clear(), clear()), [[0], [1], [2], [2], [0]])

    def test_there_is_none_then(self):
        self.assertEqual(run(example([0], 3), clear(), find(1), example([0], 2)), [[1], [1], [1, 1, 1, 0], [1]])
        self.assertEqual(run(*EIGHT, clear(), example([9], 9))[-2:], [[8], [1]])

    def test_the_rest_stays(self):
        given = run(start(3, 2), wish([27, 0, 1]), example([7, 7], 6), clear(), example([7, 7], 7), learn(5), clear(),
                    learn(5))
        self.assertEqual(given, [[64], [0], [1], [1], [1], [-3], [1], [1, 3, 3, 3, 27, 0, 1]])


if __name__ == "__main__":
    unittest.main()
