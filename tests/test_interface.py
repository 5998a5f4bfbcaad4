import contextlib
import io
import unittest

from leastterm.terms import answers
from tests.helper import clear, example, find, lang, learn, start, wish

CALLS = (start(3, 2) + lang([1, 5], [(7, 1), (0, 2)]) + wish([27, 0, 3]) + example([0, 0], 1) + learn(5) + find(5)
         + start(0, 0) + clear() + clear())


class Interface(unittest.TestCase):
    def test_each_answer_has_its_count_before_it(self):
        self.assertEqual(answers([0, 2, 2]), [1, 16])
        self.assertEqual(answers([1, 1, 0, 4, 7, 1, 0, 2]), [1, 2])
        self.assertEqual(answers([1, 0, 0]), [1, 0])
        self.assertEqual(answers([2, 3, 1, 0]), [1, 1])
        self.assertEqual(answers([2, 3, 0]), [1, -1])
        self.assertEqual(answers([3]), [1, 0])
        self.assertEqual(answers([4, 3, 27, 0, 3]), [1, 0])
        self.assertEqual(answers([4, 0]), [1, -1])
        self.assertEqual(answers([5, 1]), [4, 1, 1, 1, 0])
        self.assertEqual(answers([5, 0]), [1, 0])
        self.assertEqual(answers([5, 6]), [1, -1])
        self.assertEqual(answers([6, 1]), [5, 1, 0, 1, 1, 0])
        self.assertEqual(answers([6, 0]), [2, 0, 0])
        self.assertEqual(answers([2, 3, 1, 0, 6, 5]), [1, 1, 1, -3])
        eight = [number for a in range(8) for number in (2, a, 1, a)]
        self.assertEqual(answers([0, 4, 1] + eight + [4, 6, 31, 30, 0, 10, 0, 2, 6, 5])[-2:], [1, 2])

    def test_calls_stand_one_behind_another(self):
        self.assertEqual(answers(CALLS), [1, 64, 1, 2, 1, 0, 1, 1, 7, 1, 1, 3, 3, 27, 0, 3, 6, 1, 3, 3, 27, 0, 3,
                                          1, -1, 1, 2, 1, 0])

    def test_what_is_handed_in_is_not_changed(self):
        calls = list(CALLS)
        answers(calls)
        self.assertEqual(calls, CALLS)

    def test_a_second_time_is_as_the_first(self):
        calls = list(CALLS)
        first = answers(calls)
        changed = first.copy()
        first.clear()
        self.assertEqual(answers(calls), changed)
        self.assertEqual(answers([5, 1, 3]), [4, 1, 1, 1, 0, 1, 0])

    def test_whole_numbers_in_a_list(self):
        given = answers(CALLS)
        self.assertIs(type(given), list)
        self.assertEqual({type(number) for number in given}, {int})

    def test_nothing_is_printed(self):
        printed = io.StringIO()
        with contextlib.redirect_stdout(printed), contextlib.redirect_stderr(printed):
            answers(CALLS)
        self.assertEqual(printed.getvalue(), "")


if __name__ == "__main__":
    unittest.main()
