"""Point 3: load."""

import unittest

from helper import GREATEST, ask, ask_last, begins, best, best_answer, load, road

FOUR = tuple(load(i, 10 * i) for i in range(1, 5))


class Load(unittest.TestCase):
    def test_answers_how_many_came_before(self):
        self.assertEqual(
            ask(begins(3), load(1, 5), load(1, 8), load(2, 3), load(1, 0), load(1, 1), load(2, 2)),
            [[0], [0], [5], [0], [8], [0], [3]])

    def test_so_many_come_now(self):
        self.assertEqual(
            ask_last(begins(2), road(0, 1, 7, 3), load(1, 5), load(1, 2), best()), best_answer(13, 1, 7, [0], [1, 4]))

    def test_no_such_place(self):
        for place in (3, 7, GREATEST):
            self.assertEqual(ask_last(begins(3), load(place, 1)), [-2])
            self.assertEqual(ask_last(begins(3), load(place, 0)), [-2])

    def test_bounds_of_loads(self):
        self.assertEqual(ask(begins(2), load(1, 1000), load(1, 0)), [[0], [0], [1000]])
        for n in (1001, GREATEST):
            self.assertEqual(ask_last(begins(2), load(1, n)), [-1])

    def test_none_from_the_gate(self):
        for n in (0, 1, 1000, 1001):
            self.assertEqual(ask_last(begins(2), load(0, n)), [-1])

    def test_a_fifth_landing(self):
        self.assertEqual(ask(begins(7), *FOUR, load(5, 1), load(6, 1000)), [[0]] + [[0]] * 4 + [[-5], [-5]])

    def test_changing_one_of_four_is_no_fifth(self):
        for i in range(1, 5):
            self.assertEqual(ask(begins(7), *FOUR, load(i, 3), load(i, 0))[5:], [[10 * i], [3]])

    def test_no_loads_make_no_landing(self):
        self.assertEqual(ask(begins(7), *FOUR, load(5, 0), load(6, 0), load(5, 1))[5:], [[0], [0], [-5]])
        self.assertEqual(ask(begins(7), load(5, 0), load(6, 0), *FOUR), [[0]] * 7)

    def test_a_landing_without_loads_is_none_any_more(self):
        for i in range(1, 5):
            self.assertEqual(
                ask(begins(7), *FOUR, load(i, 0), load(5, 1), load(i, 1), load(6, 1))[5:], [[10 * i], [0], [-5], [-5]])
        self.assertEqual(
            ask(begins(2), load(1, 1), best(), load(1, 0), best())[2:], [[-6], [1], best_answer(0, 1, 0, [], [1, 0])])

    def test_of_several_refusals_the_one_told_first(self):
        self.assertEqual(ask_last(begins(3), load(3, 1001)), [-2])
        self.assertEqual(ask_last(begins(5), *FOUR, load(5, 1)), [-2])
        self.assertEqual(ask_last(begins(5), *FOUR, load(5, 1001)), [-2])
        self.assertEqual(ask_last(begins(6), *FOUR, load(5, 1001)), [-1])
        self.assertEqual(ask_last(begins(6), *FOUR, load(0, 1)), [-1])
        self.assertEqual(ask_last(begins(6), *FOUR, load(0, 1001)), [-1])

    def test_refused_leaves_all_as_it_was(self):
        roads = [road(0, i, i, 2) for i in range(1, 6)]
        built = (begins(6), *roads, *FOUR)
        asked = (best(), road(0, 5, 0, 0), *[load(i, 0) for i in range(1, 6)], best())
        as_it_was = ask(*built, *asked)[10:]
        for refused in (load(6, 1), load(1, 1001), load(0, 1), load(0, 0), load(5, 1)):
            self.assertEqual(ask(*built, refused, *asked)[11:], as_it_was)


if __name__ == "__main__":
    unittest.main()
