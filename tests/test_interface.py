"""The interface: forestroads.roads.answers."""

import contextlib
import io
import sys
import unittest

from forestroads.roads import answers
from helper import begins, best, in_one_list, load, road


class Unchangeable(list):
    """A list that can't be changed, not for a while either."""

    def refuse(self, *given):
        raise AssertionError("what is handed in was changed")

    __setitem__ = __delitem__ = __iadd__ = __imul__ = refuse
    append = extend = insert = pop = remove = clear = reverse = sort = refuse


GREATEST_FOREST = in_one_list([
    begins(7), *[road(k, k + 1, 100000, 100000) for k in range(6)], *[road(0, 6, 1, 100000)] * 3,
    *[load(i, 1000) for i in range(1, 5)]])


class OneList(unittest.TestCase):
    def test_one_call_of_each(self):
        self.assertEqual(answers([0, 3]), [1, 0])
        self.assertEqual(answers([1, 0, 1, 5, 5]), [1, -2])
        self.assertEqual(answers([2, 0, 5]), [1, -1])
        self.assertEqual(answers([3]), [7, 0, 2, 1, 0, 0, 1, 1])

    def test_one_behind_another(self):
        calls = [0, 3, 1, 0, 1, 10, 2, 1, 2, 1, 7, 3, 2, 2, 4, 3, 2, 2, 0, 3]
        self.assertEqual(answers(calls), [
            1, 0,
            1, 0,
            1, 1,
            1, 0,
            11, 37, 2, 1, 17, 2, 0, 1, 3, 1, 3, 6,
            1, 4,
            9, 0, 2, 1, 0, 0, 3, 1, 0, 0])

    def test_refusals_stand_alone(self):
        self.assertEqual(
            answers([0, 2, 2, 1, 1, 3, 0, 8, 2, 1, 1001, 2, 2, 1]), [1, 0, 1, 0, 1, -6, 1, -1, 1, -1, 1, -2])

    def test_numbers_like_calls_are_not_taken_for_calls(self):
        self.assertEqual(answers([0, 2, 1, 1, 0, 3, 3, 2, 1, 3]), [1, 0, 1, 0, 1, 0])

    def test_forty_calls(self):
        self.assertEqual(answers([0, 1] * 40), [1, 0] * 40)
        self.assertEqual(answers([3] * 40), [7, 0, 2, 1, 0, 0, 1, 1] * 40)
        self.assertEqual(answers([1, 0, 1, 1, 1] * 40), [1, -2] * 40)

    def test_forty_calls_about_the_greatest_forest(self):
        once = answers(GREATEST_FOREST + [3])
        before = answers(GREATEST_FOREST)
        self.assertEqual(answers(GREATEST_FOREST + [3] * 26), before + once[len(before):] * 26)

    def test_greatest_numbers(self):
        most = 4294967295
        self.assertEqual(
            answers([0, most, 1, most, most, most, most, 2, most, most]), [1, -1, 1, -2, 1, -2])


class HandedIn(unittest.TestCase):
    def test_is_the_same_afterwards(self):
        calls = GREATEST_FOREST + [3, 0, 8, 3]
        before = list(calls)
        answers(calls)
        self.assertEqual(calls, before)

    def test_is_not_changed_for_a_while(self):
        calls = GREATEST_FOREST + [3, 2, 1, 0, 3]
        self.assertEqual(answers(Unchangeable(calls)), answers(calls))


class NothingKept(unittest.TestCase):
    def test_one_list_after_another(self):
        first = GREATEST_FOREST + [3]
        second = [3, 2, 1, 1, 1, 0, 1, 1, 1]
        told_first = answers(first)
        self.assertEqual(answers(second), [7, 0, 2, 1, 0, 0, 1, 1, 1, -2, 1, -2])
        self.assertEqual(answers(first), told_first)
        self.assertEqual(answers(second), [7, 0, 2, 1, 0, 0, 1, 1, 1, -2, 1, -2])

    def test_what_was_given_back_is_the_callers(self):
        told = answers([0, 2, 3])
        told.clear()
        self.assertEqual(answers([0, 2, 3]), [1, 0, 8, 0, 2, 1, 0, 0, 2, 1, 0])


class WholeNumbers(unittest.TestCase):
    def test_a_list_of_them(self):
        told = answers(GREATEST_FOREST + [3, 0, 8, 2, 9, 9])
        self.assertIs(type(told), list)
        for number in told:
            self.assertIs(type(number), int)


class NothingElse(unittest.TestCase):
    def test_prints_reads_and_imports_nothing(self):
        calls = GREATEST_FOREST + [3]
        modules = set(sys.modules)
        stdin = sys.stdin
        sys.stdin = None
        try:
            with contextlib.redirect_stdout(io.StringIO()) as out, contextlib.redirect_stderr(io.StringIO()) as err:
                answers(calls)
        finally:
            sys.stdin = stdin
        self.assertEqual(out.getvalue() + err.getvalue(), "")
        self.assertEqual(set(sys.modules), modules)

    def test_calls_are_not_nested_deep(self):
        depth = 0
        frame = sys._getframe()
        while frame is not None:
            depth += 1
            frame = frame.f_back
        limit = sys.getrecursionlimit()
        calls = GREATEST_FOREST + [3] * 26
        sys.setrecursionlimit(depth + 20)
        try:
            told = answers(calls)
        finally:
            sys.setrecursionlimit(limit)
        self.assertEqual(told, answers(calls))


if __name__ == "__main__":
    unittest.main()
