"""Point 4, as far as it speaks of best."""

import unittest

from helper import Draws, ask, ask_last, begins, best, best_answer, expected_best, forest_calls, load, road


class NotJoined(unittest.TestCase):
    def test_no_roads(self):
        self.assertEqual(ask_last(begins(2), load(1, 1), best()), [-6])

    def test_roads_that_miss_the_gate(self):
        self.assertEqual(ask_last(begins(3), road(1, 2, 1, 1), load(1, 1), best()), [-6])

    def test_one_of_two_landings(self):
        self.assertEqual(ask_last(begins(3), road(0, 1, 1, 1), load(1, 1), load(2, 1), best()), [-6])

    def test_refused_leaves_all_as_it_was(self):
        built = (begins(3), road(0, 1, 4, 1), load(2, 6))
        asked = (road(1, 2, 5, 2), best(), load(2, 0))
        self.assertEqual(ask(*built, best(), *asked)[4:], ask(*built, *asked)[3:])
        self.assertEqual(ask_last(*built, best(), *asked[:2]), best_answer(27, 1, 9, [0, 1], [1, 2, 4]))


class WithoutLandings(unittest.TestCase):
    def test_nothing_is_built(self):
        self.assertEqual(
            ask_last(begins(3), road(0, 1, 1, 0), road(1, 2, 2, 0), best()), best_answer(0, 1, 0, [], [1, 0, 0]))

    def test_roads_for_nothing_make_sets_as_cheap(self):
        self.assertEqual(
            ask_last(begins(3), road(0, 1, 0, 5), road(1, 2, 0, 5), road(0, 2, 1, 0), best()),
            best_answer(0, 4, 0, [], [1, 0, 0]))

    def test_nine_roads_for_nothing(self):
        self.assertEqual(
            ask_last(begins(2), *[road(0, 1, 0, 0)] * 9, best()), best_answer(0, 512, 0, [], [1, 0]))


class Cheapest(unittest.TestCase):
    def test_one_road(self):
        self.assertEqual(
            ask_last(begins(2), road(0, 1, 10, 3), load(1, 4), best()), best_answer(22, 1, 10, [0], [1, 4]))

    def test_a_road_goes_both_ways(self):
        self.assertEqual(
            ask_last(begins(3), road(1, 0, 10, 3), road(2, 1, 1, 2), load(2, 4), best()),
            best_answer(31, 1, 11, [0, 1], [1, 4, 6]))

    def test_building_against_carrying(self):
        built = (begins(2), road(0, 1, 100, 1), road(0, 1, 10, 10))
        self.assertEqual(ask_last(*built, load(1, 9), best()), best_answer(100, 1, 10, [1], [1, 11]))
        self.assertEqual(ask_last(*built, load(1, 10), best()), best_answer(110, 2, 100, [0], [1, 2]))
        self.assertEqual(ask_last(*built, load(1, 11), best()), best_answer(111, 1, 100, [0], [1, 2]))

    def test_landings_share_a_road(self):
        self.assertEqual(
            ask_last(begins(4), road(0, 1, 50, 1), road(1, 2, 5, 1), road(1, 3, 5, 1), road(0, 2, 52, 1),
                     road(0, 3, 52, 1), load(2, 3), load(3, 4), best()),
            best_answer(74, 1, 60, [0, 1, 2], [1, 2, 3, 3]))

    def test_asked_again_and_after_a_change(self):
        self.assertEqual(
            ask(begins(2), road(0, 1, 9, 2), load(1, 3), best(), best(), road(0, 1, 1, 3), best(), load(1, 0),
                best())[3:],
            [best_answer(15, 1, 9, [0], [1, 3]), best_answer(15, 1, 9, [0], [1, 3]), [1],
             best_answer(10, 1, 1, [1], [1, 4]), [3], best_answer(0, 1, 0, [], [1, 0])])


class SetsAsCheap(unittest.TestCase):
    def test_same_roads(self):
        self.assertEqual(
            ask_last(begins(2), *[road(0, 1, 3, 2)] * 3, load(1, 1), best()), best_answer(5, 3, 3, [0], [1, 3]))

    def test_roads_that_cost_nothing(self):
        # Seven of the eight sets have a road.
        self.assertEqual(
            ask_last(begins(2), *[road(0, 1, 0, 0)] * 3, load(1, 1000), best()), best_answer(0, 7, 0, [0], [1, 1]))

    def test_the_lowest_lacks_the_highest_road_of_one_alone(self):
        # The sets {0, 1} and {2} are as cheap: road 2 is the highest that just one has.
        self.assertEqual(
            ask_last(begins(3), road(0, 1, 1, 1), road(1, 2, 1, 1), road(0, 2, 2, 2), load(2, 5), best()),
            best_answer(12, 2, 2, [0, 1], [1, 2, 3]))
        # The sets {0} and {1, 2} are as cheap.
        self.assertEqual(
            ask_last(begins(3), road(0, 2, 2, 2), road(0, 1, 1, 1), road(1, 2, 1, 1), load(2, 5), best()),
            best_answer(12, 2, 2, [0], [1, 0, 3]))
        # The sets {0, 3} and {1, 2} are as cheap: not the lowest road tells, but the highest.
        self.assertEqual(
            ask_last(begins(4), road(0, 1, 1, 1), road(0, 2, 1, 1), road(2, 3, 1, 1), road(1, 3, 1, 1), load(3, 2),
                     best()),
            best_answer(6, 2, 2, [1, 2], [1, 0, 2, 3]))

    def test_what_building_the_lowest_costs(self):
        built = (begins(2), road(0, 1, 6, 1), road(0, 1, 2, 3), load(1, 2))
        self.assertEqual(ask_last(*built, best()), best_answer(8, 2, 6, [0], [1, 2]))
        turned = (begins(2), road(0, 1, 2, 3), road(0, 1, 6, 1), load(1, 2))
        self.assertEqual(ask_last(*turned, best()), best_answer(8, 2, 2, [0], [1, 4]))


class Ways(unittest.TestCase):
    def test_the_cheapest_goes_over_more_roads(self):
        built = (begins(3), road(0, 2, 0, 25), road(0, 1, 0, 10), road(1, 2, 0, 10))
        self.assertEqual(ask_last(*built, load(2, 1), best()), best_answer(20, 2, 0, [1, 2], [1, 11, 21]))

    def test_a_built_road_that_is_dearer_is_not_used(self):
        # With all three built, loads from place 1 still go by place 2, so that set is as cheap.
        built = (begins(3), road(0, 2, 0, 1), road(2, 1, 0, 1), road(0, 1, 0, 9))
        self.assertEqual(ask_last(*built, load(1, 2), load(2, 2), best()), best_answer(6, 2, 0, [0, 1], [1, 3, 2]))

    def test_more_roads_are_built_where_carrying_gets_cheaper(self):
        built = (begins(4), road(0, 1, 1, 1), road(0, 2, 1, 9), road(1, 3, 1, 1), road(3, 2, 1, 1))
        self.assertEqual(
            ask_last(*built, load(2, 100), best()), best_answer(303, 1, 3, [0, 2, 3], [1, 2, 4, 3]))

    def test_a_long_line_whichever_road_comes_first(self):
        near_first = [road(k, k + 1, 1, k + 1) for k in range(6)]
        far_first = near_first[::-1]
        for roads in (near_first, far_first):
            self.assertEqual(
                ask_last(begins(7), *roads, load(6, 2), best()),
                best_answer(48, 1, 6, [0, 1, 2, 3, 4, 5], [1, 2, 4, 7, 11, 16, 22]))

    def test_carrying_for_nothing_is_told_as_one(self):
        self.assertEqual(
            ask_last(begins(3), road(0, 1, 1, 0), road(1, 2, 1, 0), load(2, 1000), best()),
            best_answer(2, 1, 2, [0, 1], [1, 1, 1]))

    def test_a_place_that_is_not_joined(self):
        self.assertEqual(
            ask_last(begins(5), road(0, 1, 1, 1), road(3, 4, 0, 1), road(0, 2, 1, 0), load(2, 1), best()),
            best_answer(1, 2, 1, [2], [1, 0, 1, 0, 0]))

    def test_a_place_on_the_way_is_joined(self):
        self.assertEqual(
            ask_last(begins(4), road(0, 3, 2, 4), road(3, 1, 2, 5), load(1, 1), best()),
            best_answer(13, 1, 4, [0, 1], [1, 10, 0, 5]))


class Greatest(unittest.TestCase):
    def test_all_at_their_bounds(self):
        line = [road(k, k + 1, 100000, 100000) for k in range(6)]
        beside = [road(0, 1, 100000, 100000)] * 3
        loads = [load(i, 1000) for i in range(3, 7)]
        self.assertEqual(
            ask_last(begins(7), *line, *beside, *loads, best()),
            best_answer(1800600000, 4, 600000, [0, 1, 2, 3, 4, 5],
                        [1, 100001, 200001, 300001, 400001, 500001, 600001]))

    def test_more_than_one_way_at_the_bounds(self):
        roads = [(0, 1, 100000, 100000), (1, 2, 100000, 0), (2, 3, 0, 100000), (3, 4, 100000, 100000),
                 (4, 5, 0, 0), (5, 6, 100000, 100000), (6, 0, 100000, 100000), (3, 6, 0, 100000), (1, 5, 1, 99999)]
        loads = {2: 1000, 3: 1000, 4: 1000, 5: 1000}
        self.assertEqual(ask_last(*forest_calls(7, roads, loads), best()), expected_best(7, roads, loads))


class BesideEveryWay(unittest.TestCase):
    """Many forests, each also weighed by trying every set and every way."""

    def compare(self, times, most_roads, build, carry, n):
        draws = Draws()
        joined = 0
        for k in range(times):
            places, roads, loads = draws.forest(most_roads, build, carry, n)
            expected = expected_best(places, roads, loads)
            self.assertEqual(ask_last(*forest_calls(places, roads, loads), best()), expected, (places, roads, loads))
            joined += expected != [-6]
        self.assertGreater(joined, times // 4)
        self.assertLess(joined, times)

    def test_small_costs(self):
        self.compare(300, 6, 3, 3, 3)

    def test_costs_of_all_sizes(self):
        self.compare(150, 7, 30000, 200, 200)

    def test_many_roads(self):
        self.compare(40, 9, 9, 4, 4)


class OftenAsked(unittest.TestCase):
    def test_more_than_eight_times(self):
        told = ask(begins(2), road(0, 1, 1, 1), load(1, 1), *[best()] * 37)
        self.assertEqual(told[3:], [best_answer(2, 1, 1, [0], [1, 2])] * 37)


if __name__ == "__main__":
    unittest.main()
