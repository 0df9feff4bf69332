"""Point 1: begins."""

import unittest

from helper import ask, ask_last, begins, best, best_answer, load, road


class Begins(unittest.TestCase):
    def test_one_to_seven_places(self):
        for places in range(1, 8):
            marks = [1] + [0] * (places - 1)
            self.assertEqual(ask(begins(places), best()), [[0], best_answer(0, 1, 0, [], marks)])

    def test_refuses_other_numbers(self):
        for places in (0, 8, 9, 4294967295):
            self.assertEqual(ask(begins(places)), [[-1]])

    def test_the_last_place_is_there_and_the_next_is_not(self):
        self.assertEqual(ask(begins(3), load(2, 1), load(3, 1)), [[0], [0], [-2]])
        self.assertEqual(ask(begins(3), road(0, 2, 1, 1), road(0, 3, 1, 1)), [[0], [0], [-2]])
        self.assertEqual(ask(begins(7), load(6, 1), load(7, 1)), [[0], [0], [-2]])

    def test_refused_leaves_the_forest(self):
        built = (begins(3), road(0, 1, 5, 2), road(1, 2, 6, 3), load(2, 4))
        asked = (best(), load(2, 7), road(0, 1, 1, 1), load(3, 1))
        as_it_was = ask(*built, *asked)[4:]
        for places in (0, 8, 4294967295):
            self.assertEqual(ask(*built, begins(places), *asked)[5:], as_it_was)

    def test_refused_at_first_leaves_the_gate_alone(self):
        self.assertEqual(ask(begins(8), load(1, 1), best()), [[-1], [-2], best_answer(0, 1, 0, [], [1])])

    def test_no_roads_and_no_loads_are_left(self):
        built = (begins(3), road(0, 1, 0, 2), road(1, 2, 0, 3), load(1, 9), load(2, 4))
        self.assertEqual(ask_last(*built, begins(3), best()), best_answer(0, 1, 0, [], [1, 0, 0]))
        self.assertEqual(ask(*built, begins(3), load(1, 1), load(2, 1), road(0, 1, 1, 1))[6:], [[0], [0], [0]])

    def test_fewer_and_more_places_than_before(self):
        self.assertEqual(ask(begins(7), begins(2), load(1, 1), load(2, 1)), [[0], [0], [0], [-2]])
        self.assertEqual(ask(begins(2), begins(7), load(6, 1), load(7, 1)), [[0], [0], [0], [-2]])

    def test_the_bounds_count_anew(self):
        nine = [road(0, 1, 1, 1)] * 9
        four = [load(i, 1) for i in range(1, 5)]
        self.assertEqual(ask_last(begins(6), *nine, begins(6), road(0, 1, 1, 1)), [0])
        self.assertEqual(ask_last(begins(6), *four, begins(6), load(5, 1)), [0])

    def test_without_it_there_is_the_gate_alone(self):
        self.assertEqual(ask(best()), [best_answer(0, 1, 0, [], [1])])
        self.assertEqual(ask(load(0, 1), load(1, 1)), [[-1], [-2]])
        self.assertEqual(ask(road(0, 1, 1, 1), road(0, 0, 1, 1)), [[-2], [-1]])


if __name__ == "__main__":
    unittest.main()
