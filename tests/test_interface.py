"""The interface: forestroads.roads.answers."""

import contextlib
import io
import sys
import unittest

from forestroads.roads import answers
from helper import (
    GREATEST, Weighed, alone, ask, begins, best, check, forest_calls, in_one_list, load, road, shares)


class Unchangeable(list):
    """A list that can't be changed, not for a while either."""

    def refuse(self, *given):
        raise AssertionError("what is handed in was changed")

    __setitem__ = __delitem__ = __iadd__ = __imul__ = refuse
    append = extend = insert = pop = remove = clear = reverse = sort = refuse


GREATEST_FOREST = in_one_list([
    begins(7), *[road(k, k + 1, 100000, 100000) for k in range(6)], *[road(0, 6, 1, 100000)] * 3,
    *[load(i, 1000) for i in range(1, 5)]])
# 3 places, 2 roads in a line, 4 loads at each of 2 landings: 45 together, 18 for landing 1 alone, 37 for landing 2.
LINE = (begins(3), road(0, 1, 10, 2), road(1, 2, 7, 3), load(1, 4), load(2, 4))


class OneList(unittest.TestCase):
    def test_one_call_of_each(self):
        self.assertEqual(answers([0, 3]), [1, 0])
        self.assertEqual(answers([1, 0, 1, 5, 5]), [1, -2])
        self.assertEqual(answers([2, 0, 5]), [1, -1])
        self.assertEqual(answers([3]), [7, 0, 2, 1, 0, 0, 1, 1])
        self.assertEqual(answers([4, 0]), [5, 0, 1, 0, 1, 1])
        self.assertEqual(answers([5, 0]), [2, 0, 0])
        self.assertEqual(answers([6, 1, 9]), [1, 1])

    def test_one_behind_another(self):
        calls = [0, 3, 1, 0, 1, 10, 2, 1, 2, 1, 7, 3, 2, 2, 4, 3, 2, 2, 0, 3]
        self.assertEqual(answers(calls), [
            1, 0,
            1, 0,
            1, 1,
            1, 0,
            11, 37, 2, 1, 17, 2, 0, 1, 3, 1, 3, 6,
            1, 4,
            9, 0, 2, 1, 0, 0, 3, 1, 0, 0])

    def test_the_seven_calls_mixed(self):
        calls = [
            0, 3,
            6, 3, 5, 5, 5,
            1, 0, 1, 10, 2,
            4, 1, 0,
            2, 2, 4,
            4, 1, 0,
            5, 1, 2,
            1, 2, 1, 7, 3,
            5, 1, 2,
            2, 1, 4,
            3,
            6, 3, 0, 9, 36,
            6, 3, 0, 7, 38,
            6, 2, 9, 36,
            4, 2, 0, 1,
            5, 0,
            0, 1,
            6, 1, 4294967295,
            4, 0]
        self.assertEqual(answers(calls), [
            1, 0,
            1, 1,
            1, 0,
            7, 10, 1, 10, 3, 1, 3, 0,
            1, 0,
            1, -6,
            1, -6,
            1, 1,
            4, 37, 2, 0, 1,
            1, 0,
            11, 45, 2, 1, 17, 2, 0, 1, 3, 1, 3, 6,
            1, 1,
            3, 0, 1, 2,
            1, -1,
            7, 45, 1, 17, 3, 1, 3, 6,
            2, 0, 0,
            1, 0,
            1, 1,
            5, 0, 1, 0, 1, 1])

    def test_rows_of_every_length(self):
        for kind, refused in ((4, -2), (5, -2), (6, -1)):
            for length in range(2, 21):
                self.assertEqual(answers([kind, length, *[3] * length, 2, 0, 0]), [1, refused, 1, -1])

    def test_refusals_stand_alone(self):
        self.assertEqual(
            answers([0, 2, 2, 1, 1, 3, 0, 8, 2, 1, 1001, 2, 2, 1]), [1, 0, 1, 0, 1, -6, 1, -1, 1, -1, 1, -2])

    def test_numbers_like_calls_are_not_taken_for_calls(self):
        self.assertEqual(answers([0, 2, 1, 1, 0, 3, 3, 2, 1, 3]), [1, 0, 1, 0, 1, 0])
        self.assertEqual(
            answers([4, 3, 4, 5, 6, 5, 3, 0, 0, 3, 6, 4, 6, 1, 0, 1, 6, 1, 6]), [1, -2, 1, -2, 1, -1, 1, 1])

    def test_forty_calls(self):
        self.assertEqual(answers([0, 1] * 40), [1, 0] * 40)
        self.assertEqual(answers([3] * 40), [7, 0, 2, 1, 0, 0, 1, 1] * 40)
        self.assertEqual(answers([1, 0, 1, 1, 1] * 40), [1, -2] * 40)
        self.assertEqual(answers([2, 0, 1] * 40), [1, -1] * 40)
        self.assertEqual(answers([4, 0] * 40), [5, 0, 1, 0, 1, 1] * 40)
        self.assertEqual(answers([5, 0] * 40), [2, 0, 0] * 40)
        self.assertEqual(answers([6, 1, 9] * 40), [1, 1] * 40)

    def test_forty_calls_about_the_greatest_forest(self):
        once = answers(GREATEST_FOREST + [3])
        before = answers(GREATEST_FOREST)
        self.assertEqual(answers(GREATEST_FOREST + [3] * 26), before + once[len(before):] * 26)

    def test_greatest_numbers(self):
        most = 4294967295
        self.assertEqual(
            answers([0, most, 1, most, most, most, most, 2, most, most]), [1, -1, 1, -2, 1, -2])
        self.assertEqual(answers([4, 1, most, 5, 1, most, 6, 2, most, most]), [1, -2, 1, -2, 1, -1])


class FortyCalls(unittest.TestCase):
    """Forty calls on the greatest forest, 7 places, 9 roads and 4 landings, most of them shares."""

    ROADS = [(0, 1, 90000, 3), (1, 2, 500, 11), (1, 3, 600, 7), (0, 4, 70000, 20), (4, 5, 800, 2), (5, 6, 900, 5),
             (3, 6, 4000, 1), (0, 2, 100000, 1), (2, 5, 3000, 4)]
    LOADS = {2: 1000, 3: 900, 5: 800, 6: 1}

    def compare(self, rows):
        weighed = Weighed(7, self.ROADS, self.LOADS)
        asked = [best(), check(*range(9)), check(0, 1), alone(2, 5), alone(5, 2), best()]
        expected = [weighed.best(), weighed.check(range(9)), weighed.check([0, 1]), weighed.alone([2, 5]), [-2],
                    weighed.best()]
        calls = [*forest_calls(7, self.ROADS, self.LOADS), *asked[:3], *[shares(*row) for row in rows], *asked[3:]]
        self.assertEqual(len(calls), 40)
        told = ask(*calls)[14:]
        self.assertEqual(told, [*expected[:3], *[weighed.shares(row) for row in rows], *expected[3:]])
        return {answer[0] for answer in told[3:-3]}

    def test_none_leaves(self):
        cost = Weighed(7, self.ROADS, self.LOADS).best()[0]
        fair = [GREATEST, 0, cost // 3, cost // 3, 0, cost - cost // 3 * 2 - 10, 10]
        self.assertEqual(self.compare([fair] * 20), {1})

    def test_every_answer(self):
        cost = Weighed(7, self.ROADS, self.LOADS).best()[0]
        rows = []
        for k in range(17):
            first = cost * k // 17
            second = (cost - first) * (k * 7 % 17) // 17
            third = (cost - first - second) * (k * 5 % 17) // 17
            rows.append([k, 0, first, second, GREATEST, third, cost - first - second - third])
        self.assertEqual(self.compare([*rows, [0] * 7, [GREATEST] * 7, [0] * 6]), {0, 1, -1, -3})


class ForestUnchanged(unittest.TestCase):
    """best, check, alone and shares leave the forest as it is, answered or refused."""

    def test_one_beside_another(self):
        joined = [best(), check(0, 1), check(), check(1, 0), alone(1), alone(), alone(2, 1), shares(0, 18, 27),
                  shares(0, 9, 36), shares(0, 7, 38), shares(0, 0, 0), shares()]
        single = [ask(*LINE, asked)[5:] for asked in joined]
        self.assertEqual(ask(*LINE, *joined, *joined[::-1])[5:], [one for one, in single + single[::-1]])
        self.assertEqual([one[0] for one, in single], [45, 45, -6, -2, 18, 0, -2, 1, 1, 0, -3, -1])

    def test_where_no_set_joins_all(self):
        forest = (begins(3), road(1, 2, 7, 3), load(2, 4))
        refused = [best(), check(0), alone(2), shares(0, 0, 0)]
        self.assertEqual(ask(*forest, *refused)[3:], [[-6]] * 4)
        after = (road(0, 1, 10, 2), best(), load(2, 0))
        self.assertEqual(ask(*forest, *refused, *after)[7:], ask(*forest, *after)[3:])


EVERY_CALL = GREATEST_FOREST + in_one_list([
    best(), check(*range(9)), check(0), check(1, 0), alone(1, 2, 3, 4), alone(2), alone(2, 2),
    shares(0, 0, 0, 0, 900500001, 0, 0), shares(*[5] * 7), shares(5), begins(8), load(1, 0), best(), begins(2),
    shares(1, 1), check(), alone()])


class HandedIn(unittest.TestCase):
    def test_is_the_same_afterwards(self):
        calls = list(EVERY_CALL)
        answers(calls)
        self.assertEqual(calls, EVERY_CALL)

    def test_is_not_changed_for_a_while(self):
        self.assertEqual(answers(Unchangeable(EVERY_CALL)), answers(EVERY_CALL))


class NothingKept(unittest.TestCase):
    def test_one_list_after_another(self):
        first = GREATEST_FOREST + [3]
        second = [3, 2, 1, 1, 1, 0, 1, 1, 1]
        told_first = answers(first)
        self.assertEqual(answers(second), [7, 0, 2, 1, 0, 0, 1, 1, 1, -2, 1, -2])
        self.assertEqual(answers(first), told_first)
        self.assertEqual(answers(second), [7, 0, 2, 1, 0, 0, 1, 1, 1, -2, 1, -2])

    def test_with_each_of_the_seven_calls(self):
        told_first = answers(EVERY_CALL)
        second = [4, 1, 0, 5, 1, 1, 6, 7, 0, 0, 0, 0, 0, 0, 0, 4, 0, 5, 0, 6, 1, 0]
        told_second = [1, -2, 1, -2, 1, -1, 5, 0, 1, 0, 1, 1, 2, 0, 0, 1, 1]
        self.assertEqual(answers(second), told_second)
        self.assertEqual(answers(EVERY_CALL), told_first)
        self.assertEqual(answers(second), told_second)

    def test_what_was_given_back_is_the_callers(self):
        told = answers([0, 2, 3])
        told.clear()
        self.assertEqual(answers([0, 2, 3]), [1, 0, 8, 0, 2, 1, 0, 0, 2, 1, 0])


class WholeNumbers(unittest.TestCase):
    def test_a_list_of_them(self):
        told = answers(EVERY_CALL)
        self.assertIs(type(told), list)
        for number in told:
            self.assertIs(type(number), int)


class NothingElse(unittest.TestCase):
    def test_prints_reads_and_imports_nothing(self):
        calls = list(EVERY_CALL)
        modules = set(sys.modules)
        stdin = sys.stdin
        sys.stdin = None
        try:
            with contextlib.redirect_stdout(io.StringIO()) as out, contextlib.redirect_stderr(io.StringIO()) as err:
                answers(calls)
        finally:
            sys.stdin = stdin
        self.assertEqual(out.getvalue() + err.getvalue(), "")
        self.assertEqual(set(sys.modules), modules)

    def test_calls_are_not_nested_deep(self):
        depth = 0
        frame = sys._getframe()
        while frame is not None:
            depth += 1
            frame = frame.f_back
        limit = sys.getrecursionlimit()
        calls = GREATEST_FOREST + [3] * 10 + in_one_list([shares(0, 0, 0, 0, 900500001, 0, 0)] * 15 + [alone(1, 2)])
        sys.setrecursionlimit(depth + 20)
        try:
            told = answers(calls)
        finally:
            sys.setrecursionlimit(limit)
        self.assertEqual(told, answers(calls))


if __name__ == "__main__":
    unittest.main()
