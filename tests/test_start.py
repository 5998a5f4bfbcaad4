import unittest

from tests.helper import HIGHEST, clear, example, find, lang, last, learn, run, start, wish


class Beginning(unittest.TestCase):
    def test_words_have_two_bits(self):
        self.assertEqual(run(example([3], 3)), [[1]])
        self.assertEqual(run(example([4], 0)), [[-1]])
        self.assertEqual(run(example([0], 4)), [[-1]])

    def test_there_is_one_input(self):
        self.assertEqual(run(example([], 0), example([0, 0], 0), example([0], 0)), [[-1], [-1], [1]])

    def test_the_sum_is_let_at_cost_1(self):
        self.assertEqual(last(example([1], 2), example([2], 0), example([3], 2), find(5)), [1, 3, 3, 27, 0, 0])

    def test_no_other_operation_is_let(self):
        # 3, 2, 1, 0 would be one "not"; of sums alone it isn't to be had at cost 5.
        told = [example([a], 3 - a) for a in range(4)]
        self.assertEqual(last(*told, find(5)), [0])

    def test_the_number_1_is_let(self):
        self.assertEqual(last(example([0], 1), find(5)), [1, 1, 1, 3])

    def test_no_other_number_is_let(self):
        self.assertEqual(last(example([0], 0), example([1], 0), find(5)), [0])
        self.assertEqual(last(example([0], 2), find(2)), [0])
        self.assertEqual(last(example([0], 3), find(4)), [0])

    def test_the_wish_is_input_0(self):
        self.assertEqual(run(learn(5)), [[1, 0, 1, 1, 0]])
        for a in range(4):
            for out in range(4):
                self.assertEqual(last(example([a], out), learn(0)), [0, 0] if out == a else [-3])

    def test_there_is_no_example(self):
        self.assertEqual(run(clear()), [[0]])


class Start(unittest.TestCase):
    def test_how_many_rows_of_inputs(self):
        for w in (1, 2, 3, 4):
            for k in (1, 2):
                self.assertEqual(run(start(w, k)), [[2 ** (w * k)]])

    def test_refused_widths_and_input_counts(self):
        for w, k in [(0, 1), (5, 1), (HIGHEST, 2), (1, 0), (4, 3), (2, HIGHEST), (0, 0), (5, 3)]:
            self.assertEqual(run(start(w, k)), [[-1]])

    def test_w_and_k_hold_from_then_on(self):
        for w in (1, 2, 3, 4):
            top = 2 ** w
            self.assertEqual(run(start(w, 1), example([top - 1], top - 1), example([top], 0), example([0], top)),
                             [[top], [1], [-1], [-1]])
            self.assertEqual(run(start(w, 2), example([0], 0), example([0, top - 1], 0), example([0, top], 0))[1:],
                             [[-1], [1], [-1]])

    def test_brings_the_beginning_back(self):
        before = [start(3, 2), lang([0, 5], [(0, 2), (9, 3)]), example([1, 1], 7), wish([20, 1])]
        self.assertEqual(run(*before, start(2, 1), clear())[-1], [0])
        self.assertEqual(run(*before, start(2, 1), learn(5))[-1], [1, 0, 1, 1, 0])
        self.assertEqual(last(*before, start(2, 1), example([0], 2), find(5)), [1, 3, 3, 27, 3, 3])
        self.assertEqual(last(*before, start(2, 1), example([0], 0), example([1], 0), find(5)), [0])
        told = [example([a], 3 - a) for a in range(4)]
        self.assertEqual(last(*before, start(2, 1), *told, find(5)), [0])

    def test_of_the_same_w_and_k_too(self):
        self.assertEqual(run(example([0], 3), start(2, 1), clear()), [[1], [4], [0]])

    def test_after_a_refusal_all_is_as_it_was(self):
        before = [start(3, 2), lang([6], [(4, 1)]), example([1, 7], 2), wish([24, 0, 8])]
        plain = run(*before, find(5), learn(5), example([7, 7], 6), clear())
        for refused in (start(5, 1), start(1, 3), start(0, 2)):
            given = run(*before, refused, find(5), refused, learn(5), refused, example([7, 7], 6), refused, clear())
            self.assertEqual(given[:4], plain[:4])
            self.assertEqual(given[4::2], [[-1]] * 4)
            self.assertEqual(given[5::2], plain[4:])


if __name__ == "__main__":
    unittest.main()
