"""Point 4, as far as it speaks of check."""

import unittest

from helper import (
    GREATEST, Draws, Weighed, ask, ask_last, begins, best, check, check_answer, forest_calls, load, road)

ROADS = (road(0, 1, 10, 2), road(1, 2, 7, 3), road(0, 2, 30, 1), road(2, 3, 5, 4))
WITHOUT_LOADS = (begins(4), *ROADS)
FOREST = (*WITHOUT_LOADS, load(2, 4))
NINE = (begins(7), *[road(0, 1, k, 9 - k) for k in range(9)])


class Checked(unittest.TestCase):
    def test_costs_building_and_places(self):
        self.assertEqual(ask_last(*FOREST, check(0, 1)), check_answer(37, 17, [1, 3, 6, 0]))
        self.assertEqual(ask_last(*FOREST, check(2)), check_answer(34, 30, [1, 0, 2, 0]))

    def test_as_the_interface_writes_it(self):
        self.assertEqual(ask_last(*FOREST, [4, 2, 0, 1]), [37, 1, 17, 4, 1, 3, 6, 0])

    def test_roads_that_are_not_needed(self):
        self.assertEqual(ask_last(*FOREST, check(0, 1, 3)), check_answer(42, 22, [1, 3, 6, 10]))
        self.assertEqual(ask_last(*FOREST, check(0, 2)), check_answer(44, 40, [1, 3, 2, 0]))
        self.assertEqual(ask_last(*FOREST, check(0, 1, 2, 3)), check_answer(56, 52, [1, 3, 2, 6]))

    def test_needed_or_not_no_road_is_left_out(self):
        self.assertEqual(
            ask_last(begins(2), *[road(0, 1, 5, 3)] * 9, load(1, 2), check(*range(9))), check_answer(51, 45, [1, 4]))

    def test_several_landings(self):
        self.assertEqual(
            ask_last(*FOREST, load(1, 10), load(3, 1), check(0, 1, 3)), check_answer(71, 22, [1, 3, 6, 10]))

    def test_a_set_need_not_be_among_the_cheapest(self):
        forest = (begins(2), road(0, 1, 1, 1), road(0, 1, 100000, 100000), load(1, 1000))
        self.assertEqual(ask_last(*forest, check(1)), check_answer(100100000, 100000, [1, 100001]))

    def test_roads_that_miss_the_gate(self):
        self.assertEqual(ask_last(*FOREST, load(2, 0), check(1, 3)), check_answer(12, 12, [1, 0, 0, 0]))
        self.assertEqual(ask_last(*FOREST, load(2, 0), load(1, 3), check(0, 3)), check_answer(21, 15, [1, 3, 0, 0]))

    def test_after_a_change(self):
        self.assertEqual(
            ask(*FOREST, check(2), load(2, 5), check(2), load(3, 0), road(0, 3, 1, 0), check(2, 4))[6:],
            [check_answer(34, 30, [1, 0, 2, 0]), [4], check_answer(35, 30, [1, 0, 2, 0]), [0], [4],
             check_answer(36, 31, [1, 0, 2, 1])])


class NoRoads(unittest.TestCase):
    def test_without_landings(self):
        self.assertEqual(ask_last(check()), check_answer(0, 0, [1]))
        self.assertEqual(ask_last(begins(3), check()), check_answer(0, 0, [1, 0, 0]))
        self.assertEqual(ask_last(*WITHOUT_LOADS, check()), check_answer(0, 0, [1, 0, 0, 0]))

    def test_with_landings(self):
        self.assertEqual(ask_last(*FOREST, check()), [-6])
        self.assertEqual(ask_last(begins(2), load(1, 1), check()), [-6])


class Refused(unittest.TestCase):
    def test_roads_that_do_not_rise(self):
        for roads in ((1, 0), (0, 2, 1), (1, 2, 0), (3, 2, 1, 0)):
            self.assertEqual(ask_last(*FOREST, check(*roads)), [-2], roads)
            self.assertEqual(ask_last(*WITHOUT_LOADS, check(*roads)), [-2], roads)

    def test_the_same_road_twice(self):
        for roads in ((2, 2), (0, 1, 1), (0, 0, 1), (0, 1, 2, 2), (0, 1, 0)):
            self.assertEqual(ask_last(*FOREST, check(*roads)), [-2], roads)
            self.assertEqual(ask_last(*WITHOUT_LOADS, check(*roads)), [-2], roads)

    def test_none_such(self):
        for roads in ((4,), (0, 1, 4), (2, 9), (GREATEST,), (2, GREATEST)):
            self.assertEqual(ask_last(*FOREST, check(*roads)), [-2], roads)
            self.assertEqual(ask_last(*WITHOUT_LOADS, check(*roads)), [-2], roads)
        self.assertEqual(ask_last(begins(4), check(0)), [-2])
        self.assertEqual(ask_last(check(0)), [-2])
        self.assertEqual(ask(*NINE, check(8), check(9))[10:], [check_answer(8, 8, [1, 2, 0, 0, 0, 0, 0]), [-2]])

    def test_none_such_any_more(self):
        self.assertEqual(ask_last(*FOREST, begins(4), check(0)), [-2])

    def test_landings_that_are_not_joined(self):
        for roads in ((0,), (1,), (3,), (0, 3), (1, 3)):
            self.assertEqual(ask_last(*FOREST, check(*roads)), [-6], roads)

    def test_one_of_two_landings_is_not_joined(self):
        self.assertEqual(ask_last(*FOREST, load(3, 1), check(0, 1, 2)), [-6])
        self.assertEqual(ask_last(*FOREST, load(1, 1), check(2, 3)), [-6])

    def test_of_both_the_one_told_first(self):
        for roads in ((3, 1), (0, 0), (1, 1), (0, 4), (4,), (GREATEST, 0)):
            self.assertEqual(ask_last(*FOREST, check(*roads)), [-2], roads)
        self.assertEqual(ask_last(begins(2), load(1, 1), check(0)), [-2])


class LongList(unittest.TestCase):
    def test_twenty_numbers(self):
        for roads in (range(20), [0] * 20, range(19, -1, -1), [GREATEST] * 20, [2] + [6] * 19):
            self.assertEqual(
                ask(*FOREST, check(*roads), check(2))[6:], [[-2], check_answer(34, 30, [1, 0, 2, 0])], roads)
            self.assertEqual(ask(*NINE, check(*roads), check())[10:], [[-2], check_answer(0, 0, [1] + [0] * 6)], roads)

    def test_all_nine_roads(self):
        self.assertEqual(ask_last(*NINE, check(*range(9))), check_answer(36, 36, [1, 2, 0, 0, 0, 0, 0]))
        self.assertEqual(ask_last(*NINE, check(*range(10))), [-2])


class LeavesAllAsItWas(unittest.TestCase):
    def test_answered_or_refused(self):
        asked = (best(), check(0, 1), load(2, 7), road(0, 3, 1, 1), best())
        as_it_was = ask(*FOREST, *asked)[6:]
        for roads in ((0, 1, 2, 3), (2,), (), (0,), (1, 0), (4,)):
            self.assertEqual(ask(*FOREST, check(*roads), *asked)[7:], as_it_was, roads)


class BesideEveryWay(unittest.TestCase):
    def test_many_forests(self):
        draws = Draws()
        seen = {-2: 0, -6: 0, 0: 0}
        for k in range(150):
            forest = draws.forest(6, 9, 9, 9)
            weighed = Weighed(*forest)
            rows = [draws.some_of(range(len(forest[1]))) for row in range(4)] + [draws.some_of(range(8))]
            told = ask(*forest_calls(*forest), *[check(*row) for row in rows])[-5:]
            self.assertEqual(told, [weighed.check(row) for row in rows], (forest, rows))
            for answer in told:
                seen[min(answer[0], 0)] += 1
        self.assertGreater(min(seen.values()), 50)


if __name__ == "__main__":
    unittest.main()
