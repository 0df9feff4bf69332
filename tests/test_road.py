"""Point 2: road."""

import unittest

from helper import GREATEST, ask, ask_last, begins, best, best_answer, load, road


class Road(unittest.TestCase):
    def test_numbered_from_nought(self):
        roads = [road(k % 4, 4, k, k) for k in range(9)]
        self.assertEqual(ask(begins(5), *roads), [[0]] + [[k] for k in range(9)])

    def test_several_between_the_same_two(self):
        self.assertEqual(
            ask(begins(2), road(0, 1, 3, 3), road(0, 1, 3, 3), road(1, 0, 2, 4)), [[0], [0], [1], [2]])

    def test_no_such_place(self):
        for place in (3, 4, 7, GREATEST):
            self.assertEqual(ask_last(begins(3), road(place, 1, 1, 1)), [-2])
            self.assertEqual(ask_last(begins(3), road(1, place, 1, 1)), [-2])
            self.assertEqual(ask_last(begins(3), road(place, place, 1, 1)), [-2])

    def test_from_a_place_to_itself(self):
        for place in range(3):
            self.assertEqual(ask_last(begins(3), road(place, place, 1, 1)), [-1])

    def test_bounds_of_costs(self):
        for cost in (0, 1, 99999, 100000):
            self.assertEqual(ask_last(begins(2), road(0, 1, cost, 1)), [0])
            self.assertEqual(ask_last(begins(2), road(0, 1, 1, cost)), [0])
        for cost in (100001, GREATEST):
            self.assertEqual(ask_last(begins(2), road(0, 1, cost, 1)), [-1])
            self.assertEqual(ask_last(begins(2), road(0, 1, 1, cost)), [-1])

    def test_costs_at_their_bounds_are_kept(self):
        self.assertEqual(
            ask_last(begins(2), road(0, 1, 100000, 100000), load(1, 1), best()),
            best_answer(200000, 1, 100000, [0], [1, 100001]))

    def test_a_tenth(self):
        nine = [road(0, 1, 1, 1)] * 9
        self.assertEqual(ask(begins(3), *nine, road(1, 2, 1, 1), road(0, 1, 1, 1))[9:], [[8], [-5], [-5]])

    def test_of_several_refusals_the_one_told_first(self):
        nine = [road(0, 1, 1, 1)] * 9
        for before in ([], nine):
            self.assertEqual(ask_last(begins(3), *before, road(3, 3, 100001, 100001)), [-2])
            self.assertEqual(ask_last(begins(3), *before, road(0, 3, 100001, 1)), [-2])
            self.assertEqual(ask_last(begins(3), *before, road(3, 0, 1, 100001)), [-2])
        self.assertEqual(ask_last(begins(3), *nine, road(0, 3, 1, 1)), [-2])
        self.assertEqual(ask_last(begins(3), *nine, road(2, 2, 1, 1)), [-1])
        self.assertEqual(ask_last(begins(3), *nine, road(0, 1, 100001, 1)), [-1])
        self.assertEqual(ask_last(begins(3), *nine, road(0, 1, 1, 100001)), [-1])

    def test_refused_leaves_all_as_it_was(self):
        built = (begins(3), road(0, 1, 5, 2), road(1, 2, 6, 3), load(2, 4))
        asked = (best(), load(2, 7), road(0, 2, 1, 1), best())
        as_it_was = ask(*built, *asked)[4:]
        for refused in (road(0, 3, 0, 0), road(3, 0, 0, 0), road(2, 2, 0, 0), road(0, 2, 100001, 0),
                        road(0, 2, 0, 100001)):
            self.assertEqual(ask(*built, refused, *asked)[5:], as_it_was)

    def test_a_refused_tenth_leaves_all_as_it_was(self):
        built = (begins(3), *[road(0, 1, 5, 2)] * 9, load(1, 4))
        as_it_was = ask(*built, best(), load(1, 0), road(0, 1, 1, 1))[11:]
        self.assertEqual(
            ask(*built, road(0, 1, 0, 0), best(), load(1, 0), road(0, 1, 1, 1))[12:], as_it_was)


if __name__ == "__main__":
    unittest.main()
