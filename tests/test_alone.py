"""Point 4, as far as it speaks of alone."""

import unittest

from helper import (
    GREATEST, Draws, Weighed, alone, alone_answer, ask, ask_last, begins, best, best_answer, forest_calls, load, road)

# Together the landings 2 and 3 share road 0; by itself each takes its own road to the gate.
SHARED = (begins(5), road(0, 1, 50, 1), road(1, 2, 5, 1), road(1, 3, 5, 1), road(0, 2, 52, 1), road(0, 3, 52, 1),
          load(2, 3), load(3, 4))
# No road goes from the places 2 and 3 to the gate.
APART = (begins(5), road(0, 1, 3, 2), road(2, 3, 1, 1), load(1, 5), load(2, 1))


class Alone(unittest.TestCase):
    def test_another_set_than_that_of_all(self):
        self.assertEqual(
            ask(*SHARED, best(), alone(2), alone(3))[8:],
            [best_answer(74, 1, 60, [0, 1, 2], [1, 2, 3, 3, 0]), alone_answer(55, [3]), alone_answer(56, [4])])

    def test_all_landings(self):
        self.assertEqual(ask_last(*SHARED, alone(2, 3)), alone_answer(74, [0, 1, 2]))

    def test_as_the_interface_writes_it(self):
        self.assertEqual(ask(*SHARED, [5, 1, 2], [5, 2, 2, 3])[8:], [[55, 1, 3], [74, 3, 0, 1, 2]])

    def test_what_is_carried_is_these_loads(self):
        forest = (begins(3), road(0, 1, 100, 1), road(0, 1, 10, 10), road(1, 2, 0, 0), load(1, 8), load(2, 9))
        self.assertEqual(
            ask(*forest, alone(1), alone(2), alone(1, 2), load(2, 11), alone(2))[6:],
            [alone_answer(90, [1]), alone_answer(100, [1, 2]), alone_answer(117, [0, 2]), [9],
             alone_answer(111, [0, 2])])

    def test_others_that_are_not_joined(self):
        self.assertEqual(
            ask(*APART, best(), alone(1), alone())[5:], [[-6], alone_answer(13, [0]), alone_answer(0, [])])

    def test_four_landings(self):
        star = (begins(5), *[road(0, i, i, 0) for i in range(1, 5)], *[load(i, 1) for i in range(1, 5)])
        self.assertEqual(
            ask(*star, alone(1, 2, 3, 4), alone(1, 4), alone(2, 3, 4))[9:],
            [alone_answer(10, [0, 1, 2, 3]), alone_answer(5, [0, 3]), alone_answer(9, [1, 2, 3])])


class SetsAsCheap(unittest.TestCase):
    def test_the_lowest_is_told(self):
        forest = (begins(4), road(0, 1, 1, 1), road(0, 2, 1, 1), road(2, 3, 1, 1), road(1, 3, 1, 1), load(1, 1),
                  load(3, 2))
        # For place 3 alone the sets {0, 3} and {1, 2} are as cheap, for both landings {0, 3} is the cheapest.
        self.assertEqual(ask(*forest, alone(3), alone(1, 3))[7:], [alone_answer(6, [1, 2]), alone_answer(7, [0, 3])])

    def test_one_road_or_two(self):
        self.assertEqual(
            ask_last(begins(3), road(0, 1, 1, 1), road(1, 2, 1, 1), road(0, 2, 2, 2), load(2, 5), alone(2)),
            alone_answer(12, [0, 1]))
        self.assertEqual(
            ask_last(begins(3), road(0, 2, 2, 2), road(0, 1, 1, 1), road(1, 2, 1, 1), load(2, 5), alone(2)),
            alone_answer(12, [0]))

    def test_roads_for_nothing_are_not_told(self):
        forest = (begins(3), road(0, 1, 0, 0), road(0, 2, 0, 0), road(0, 2, 0, 0), load(1, 1), load(2, 1000))
        self.assertEqual(
            ask(*forest, alone(), alone(1), alone(2), alone(1, 2))[6:],
            [alone_answer(0, []), alone_answer(0, [0]), alone_answer(0, [1]), alone_answer(0, [0, 1])])


class NoLandings(unittest.TestCase):
    def test_nothing_is_built(self):
        self.assertEqual(ask_last(alone()), alone_answer(0, []))
        self.assertEqual(ask_last(begins(7), alone()), alone_answer(0, []))
        self.assertEqual(ask_last(*SHARED, alone()), alone_answer(0, []))
        self.assertEqual(ask_last(begins(2), load(1, 1), alone()), alone_answer(0, []))


class Refused(unittest.TestCase):
    def test_landings_that_do_not_rise(self):
        self.assertEqual(ask_last(*SHARED, alone(3, 2)), [-2])
        self.assertEqual(ask_last(*SHARED, load(1, 1), alone(1, 3, 2)), [-2])

    def test_the_same_landing_twice(self):
        for group in ((2, 2), (3, 3), (2, 2, 3), (2, 3, 3), (2, 3, 2)):
            self.assertEqual(ask_last(*SHARED, alone(*group)), [-2], group)

    def test_a_place_without_loads(self):
        for group in ((1,), (4,), (1, 2), (2, 4), (1, 2, 3)):
            self.assertEqual(ask_last(*SHARED, alone(*group)), [-2], group)

    def test_a_landing_no_more(self):
        self.assertEqual(ask(*SHARED, load(2, 0), alone(2), alone(3))[8:], [[3], [-2], alone_answer(56, [4])])
        self.assertEqual(ask_last(*SHARED, begins(5), alone(2)), [-2])

    def test_the_gate(self):
        for group in ((0,), (0, 2), (0, 2, 3)):
            self.assertEqual(ask_last(*SHARED, alone(*group)), [-2], group)
        self.assertEqual(ask_last(alone(0)), [-2])

    def test_no_place_at_all(self):
        for group in ((5,), (7,), (2, 5), (GREATEST,), (2, 3, GREATEST)):
            self.assertEqual(ask_last(*SHARED, alone(*group)), [-2], group)

    def test_no_set_joins_them(self):
        self.assertEqual(ask(*APART, alone(2), alone(1, 2))[5:], [[-6], [-6]])
        self.assertEqual(ask_last(begins(2), load(1, 1), alone(1)), [-6])

    def test_of_both_the_one_told_first(self):
        for group in ((2, 1), (2, 2), (1, 2, 2), (2, 3), (2, 4), (2, 5), (0, 2), (2, GREATEST)):
            self.assertEqual(ask_last(*APART, alone(*group)), [-2], group)


class LongList(unittest.TestCase):
    def test_twenty_numbers(self):
        for group in (range(20), range(1, 21), [2] * 20, [2, 3] * 10, [GREATEST] * 20, [2] + [6] * 19):
            self.assertEqual(ask(*SHARED, alone(*group), alone(2))[8:], [[-2], alone_answer(55, [3])], group)


class LeavesAllAsItWas(unittest.TestCase):
    def test_answered_or_refused(self):
        for forest, groups in ((SHARED, ((2,), (3,), (2, 3), (), (3, 2), (1,))), (APART, ((1,), (2,), (1, 2), (0,)))):
            asked = (best(), load(1, 7), load(2, 0), load(3, 0), road(0, 4, 1, 1), best())
            as_it_was = ask(*forest, *asked)[len(forest):]
            for group in groups:
                self.assertEqual(ask(*forest, alone(*group), *asked)[len(forest) + 1:], as_it_was, group)


class BesideEveryWay(unittest.TestCase):
    """Many forests, each also weighed by trying every set and every way."""

    def compare(self, times, most_roads, build, carry, n):
        draws = Draws()
        seen = {-2: 0, -6: 0, 0: 0}
        for k in range(times):
            forest = draws.forest(most_roads, build, carry, n)
            weighed = Weighed(*forest)
            landings = sorted(weighed.loads)
            rows = [landings, *[draws.some_of(landings) for row in range(3)], draws.some_of(range(4))]
            told = ask(*forest_calls(*forest), *[alone(*row) for row in rows])[-5:]
            self.assertEqual(told, [weighed.alone(row) for row in rows], (forest, rows))
            for answer in told:
                seen[min(answer[0], 0)] += 1
        self.assertGreater(min(seen.values()), times // 4)

    def test_small_costs(self):
        self.compare(200, 6, 3, 3, 3)

    def test_costs_of_all_sizes(self):
        self.compare(80, 7, 30000, 200, 200)


if __name__ == "__main__":
    unittest.main()
