import builtins
import contextlib
import io
import pathlib
import subprocess
import sys
import unittest
from unittest import mock

from leastterm.terms import answers
from tests.helper import (best, check, classes, clear, cost, counted, example, find, lang, learn, shows, start, value,
                          wish)

# All thirteen calls, and one that is refused.
CALLS = (start(3, 2) + lang([1, 5], [(7, 1), (0, 2)]) + wish([27, 0, 3]) + example([0, 0], 1) + learn(5) + find(5)
         + best(5) + check([27, 3, 1]) + classes(3) + cost([20, 27, 0, 7]) + value([6, 3], [29, 0, 1]) + shows()
         + start(0, 0) + clear() + shows())
ANSWERS = [1, 64, 1, 2, 1, 0, 1, 1, 7, 1, 1, 3, 3, 27, 0, 3, 6, 1, 3, 3, 27, 0, 3,
           6, 1, 3, 3, 27, 0, 3, 3, 0, 0, 1, 4, 3, 4, 0, 7, 2, 1, 5, 1, 2, 7, 2, 0, 0, 1, 1, 0, 2,
           1, -1, 1, 2, 1, 0]


class Unchanged(list):
    """A list that fails when it's changed, be it for a while."""

    def refuse(self, *told, **named):
        raise AssertionError("what is handed in is changed")

    append = extend = insert = pop = remove = clear = sort = reverse = refuse
    __setitem__ = __delitem__ = __iadd__ = __imul__ = refuse


class Interface(unittest.TestCase):
    def test_each_answer_has_its_count_before_it(self):
        self.assertEqual(answers([0, 2, 2]), [1, 16])
        self.assertEqual(answers([1, 1, 0, 4, 7, 1, 0, 2]), [1, 2])
        self.assertEqual(answers([1, 0, 0]), [1, 0])
        self.assertEqual(answers([2, 3, 1, 0]), [1, 1])
        self.assertEqual(answers([2, 3, 0]), [1, -1])
        self.assertEqual(answers([3]), [1, 0])
        self.assertEqual(answers([4, 3, 27, 0, 3]), [1, 0])
        self.assertEqual(answers([4, 0]), [1, -1])
        self.assertEqual(answers([5, 1]), [4, 1, 1, 1, 0])
        self.assertEqual(answers([5, 0]), [1, 0])
        self.assertEqual(answers([5, 6]), [1, -1])
        self.assertEqual(answers([6, 1]), [5, 1, 0, 1, 1, 0])
        self.assertEqual(answers([6, 0]), [2, 0, 0])
        self.assertEqual(answers([2, 3, 1, 0, 6, 5]), [1, 1, 1, -3])
        eight = [number for a in range(8) for number in (2, a, 1, a)]
        self.assertEqual(answers([0, 4, 1] + eight + [4, 6, 31, 30, 0, 10, 0, 2, 6, 5])[-2:], [1, 2])
        self.assertEqual(answers([7, 1]), [4, 1, 1, 1, 0])
        self.assertEqual(answers([7, 0]), [1, 0])
        self.assertEqual(answers([7, 6]), [1, -1])
        self.assertEqual(answers([8, 1, 0]), [1, 1])
        self.assertEqual(answers([8, 1, 2]), [2, 0, 1])
        self.assertEqual(answers([8, 0]), [1, -1])
        self.assertEqual(answers([0, 2, 2, 8, 1, 1]), [1, 16, 3, 0, 0, 1])
        self.assertEqual(answers([9, 0]), [1, 0])
        self.assertEqual(answers([9, 3]), [4, 3, 1, 0, 0])
        self.assertEqual(answers([9, 6]), [1, -1])
        self.assertEqual(answers([10, 3, 27, 0, 3]), [2, 1, 3])
        self.assertEqual(answers([10, 1, 2]), [1, 0])
        self.assertEqual(answers([10, 0]), [1, -1])
        self.assertEqual(answers([11, 1, 2, 3, 27, 0, 3]), [1, 3])
        self.assertEqual(answers([11, 0, 1, 3]), [1, -1])
        self.assertEqual(answers([11, 1, 2, 0]), [1, -1])
        self.assertEqual(answers([12]), [1, 0])
        self.assertEqual(answers([2, 3, 1, 0, 12]), [1, 1, 3, 1, 0, 3])

    def test_calls_stand_one_behind_another(self):
        self.assertEqual(answers(CALLS), ANSWERS)

    def test_rows_at_their_longest_and_numbers_at_their_highest(self):
        top = 4294967295
        calls = (start(top, top) + lang([top] * 5, [(top, top)] * 7) + example([top] * 4, top) + clear()
                 + wish([top] * 30) + find(top) + learn(top) + best(top) + check([top] * 30) + classes(top)
                 + cost([top] * 30) + value([top] * 4, [top] * 30) + shows())
        self.assertEqual(answers(calls), [1, -1] * 3 + [1, 0] + [1, -1] * 8 + [1, 0])

    def test_the_longest_list(self):
        calls = ([11] + counted([0] * 4) + counted([20] * 29 + [0])) * 40
        self.assertEqual(len(calls), 1480)
        self.assertEqual(answers(calls), [1, -1] * 40)

    def test_what_is_handed_in_is_not_changed(self):
        calls = list(CALLS)
        answers(calls)
        self.assertEqual(calls, CALLS)

    def test_what_is_handed_in_is_not_changed_for_a_while_either(self):
        self.assertEqual(answers(Unchanged(CALLS)), ANSWERS)

    def test_what_is_handed_in_is_not_given_back(self):
        calls = list(CALLS)
        answers(calls).clear()
        self.assertEqual(calls, CALLS)

    def test_a_second_time_is_as_the_first(self):
        calls = list(CALLS)
        first = answers(calls)
        first.clear()
        self.assertEqual(answers(calls), ANSWERS)
        self.assertEqual(answers([5, 1, 3]), [4, 1, 1, 1, 0, 1, 0])
        self.assertEqual(answers([7, 1, 12, 9, 1, 8, 1, 0]), [4, 1, 1, 1, 0, 1, 0, 2, 1, 1, 1, 1])

    def test_whole_numbers_in_a_list(self):
        given = answers(CALLS)
        self.assertIs(type(given), list)
        self.assertEqual({type(number) for number in given}, {int})

    def test_nothing_is_printed(self):
        printed = io.StringIO()
        with contextlib.redirect_stdout(printed), contextlib.redirect_stderr(printed):
            answers(CALLS)
        self.assertEqual(printed.getvalue(), "")

    def test_nothing_is_read_or_imported(self):
        refused = AssertionError("something is read or imported")
        with mock.patch.object(builtins, "open", side_effect=refused), \
                mock.patch.object(builtins, "input", side_effect=refused), \
                mock.patch.object(builtins, "__import__", side_effect=refused), \
                mock.patch.object(sys, "stdin", None):
            given = answers(CALLS)
        self.assertEqual(given, ANSWERS)

    def test_only_its_own_modules_are_imported(self):
        program = ("import sys; before = set(sys.modules); import leastterm.terms; "
                   "print(sorted({name.split('.')[0] for name in set(sys.modules) - before}))")
        root = pathlib.Path(__file__).parent.parent
        shown = subprocess.run([sys.executable, "-c", program], cwd=root, capture_output=True, text=True, check=True)
        self.assertEqual(shown.stdout, "['leastterm']\n")

    def test_calls_within_one_another_stay_few(self):
        calls = (wish([20] * 23 + [0]) + check([27, 3] * 11 + [0]) + cost([20] * 23 + [0]) + value([1], [20] * 23 + [0])
                 + lang([1], [(0, 1), (7, 1), (11, 1)]) + learn(5) + best(5) + classes(5)) * 5
        expected = answers(calls)
        depth = 0
        frame = sys._getframe()
        while frame is not None:
            depth, frame = depth + 1, frame.f_back
        limit = sys.getrecursionlimit()
        sys.setrecursionlimit(depth + 25)
        try:
            given = answers(calls)
        finally:
            sys.setrecursionlimit(limit)
        self.assertEqual(given, expected)


if __name__ == "__main__":
    unittest.main()
