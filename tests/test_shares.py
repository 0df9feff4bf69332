"""Point 4, as far as it speaks of shares."""

import unittest

from helper import (
    GREATEST, Draws, Weighed, alone, ask, ask_last, begins, best, forest_calls, load, road, shares, would_leave)

# The cheapest roads cost 74; for landing 2 alone 55, for landing 3 alone 56.
SHARED = (begins(4), road(0, 1, 50, 1), road(1, 2, 5, 1), road(1, 3, 5, 1), road(0, 2, 52, 1), road(0, 3, 52, 1),
          load(2, 3), load(3, 4))
# Every landing needs 10 for its own road, whoever else builds.
STAR = (begins(4), *[road(0, i, 10, 0) for i in range(1, 4)], *[load(i, 1) for i in range(1, 4)])
# Road 0 costs 30 and serves all; each landing needs 1 more.
HUB = (begins(5), road(0, 4, 30, 0), *[road(4, i, 1, 0) for i in range(1, 4)], *[load(i, 1) for i in range(1, 4)])
# The landings 1 and 4 need 10 each; 2 and 3 need 30 together, and each 1 more.
STAR_AND_HUB = (begins(6), road(0, 1, 10, 0), road(0, 4, 10, 0), road(0, 5, 30, 0), road(5, 2, 1, 0),
                road(5, 3, 1, 0), *[load(i, 1) for i in range(1, 5)])


class NoneLeaves(unittest.TestCase):
    def test_one_alone_is_told(self):
        for paid in ((0, 0, 40, 34), (0, 0, 37, 37), (0, 0, 20, 54)):
            self.assertEqual(ask_last(*SHARED, shares(*paid)), [1], paid)
        self.assertEqual(ask_last(*STAR, shares(0, 10, 10, 10)), [1])
        self.assertEqual(ask_last(*HUB, shares(0, 11, 11, 11, 0)), [1])

    def test_paying_just_what_it_costs_alone(self):
        self.assertEqual(ask_last(*SHARED, shares(0, 0, 55, 19)), [1])
        self.assertEqual(ask_last(*SHARED, shares(0, 0, 18, 56)), [1])
        self.assertEqual(ask_last(*HUB, shares(0, 1, 16, 16, 0)), [1])
        self.assertEqual(ask_last(*HUB, shares(0, 31, 1, 1, 0)), [1])

    def test_one_landing(self):
        self.assertEqual(ask_last(begins(2), road(0, 1, 10, 3), load(1, 4), shares(0, 22)), [1])

    def test_for_nothing(self):
        self.assertEqual(ask_last(begins(2), road(0, 1, 0, 0), load(1, 1000), shares(0, 0)), [1])


class OneGroupLeaves(unittest.TestCase):
    def test_a_landing(self):
        self.assertEqual(ask_last(*SHARED, shares(0, 0, 56, 18)), would_leave(2))
        self.assertEqual(ask_last(*SHARED, shares(0, 0, 17, 57)), would_leave(3))
        self.assertEqual(ask_last(*SHARED, shares(0, 0, 74, 0)), would_leave(2))

    def test_as_the_interface_writes_it(self):
        self.assertEqual(
            ask(*SHARED, [6, 4, 0, 0, 56, 18], [6, 4, 0, 0, 37, 37])[8:], [[0, 1, 2], [1]])
        self.assertEqual(ask_last(*HUB, [6, 5, 0, 0, 16, 17, 0]), [0, 2, 2, 3])

    def test_two_landings(self):
        self.assertEqual(ask_last(*HUB, shares(0, 0, 16, 17, 0)), would_leave(2, 3))
        self.assertEqual(ask_last(*HUB, shares(0, 16, 0, 17, 0)), would_leave(1, 3))
        self.assertEqual(ask_last(*HUB, shares(0, 16, 17, 0, 0)), would_leave(1, 2))

    def test_three_of_four(self):
        hub = (begins(6), road(0, 5, 30, 0), *[road(5, i, 1, 0) for i in range(1, 5)],
               *[load(i, 1) for i in range(1, 5)])
        for free in range(1, 5):
            group = [i for i in range(1, 5) if i != free]
            paid = [0, 11, 11, 12, 0] if free == 4 else [0] + [0 if i == free else 11 for i in range(1, 4)] + [12]
            self.assertEqual(ask_last(*hub, shares(*paid, 0)), would_leave(*group), paid)

    def test_a_group_by_what_its_own_cheapest_roads_cost(self):
        # For landing 2 alone road 3 is the cheapest, though the cheapest set for both doesn't have it.
        self.assertEqual(ask(*SHARED, alone(2), shares(0, 0, 56, 18))[8:], [[55, 1, 3], would_leave(2)])


class TheEarliestIsTold(unittest.TestCase):
    def test_groups_with_none_in_common(self):
        self.assertEqual(ask_last(*STAR, shares(0, 11, 11, 8)), would_leave(2))
        self.assertEqual(ask_last(*STAR, shares(0, 11, 8, 11)), would_leave(3))
        self.assertEqual(ask_last(*STAR, shares(0, 8, 11, 11)), would_leave(3))
        self.assertEqual(ask_last(*STAR, shares(0, 8, 12, 10)), would_leave(2))

    def test_a_group_that_another_holds(self):
        # {1}, {1, 2} and {1, 3} would leave, and of the others likewise.
        self.assertEqual(ask_last(*STAR, shares(0, 12, 9, 9)), would_leave(1))
        self.assertEqual(ask_last(*STAR, shares(0, 9, 12, 9)), would_leave(2))
        self.assertEqual(ask_last(*STAR, shares(0, 9, 9, 12)), would_leave(3))

    def test_more_landings_may_be_earlier_than_fewer(self):
        # {1} and {2, 3} would leave: just one has landing 1, and the other is the earlier.
        self.assertEqual(ask_last(*STAR_AND_HUB, shares(0, 15, 18, 19, 0, 0)), would_leave(2, 3))

    def test_a_group_that_holds_a_higher_landing_too(self):
        # {2} and {2, 3} would leave: just one has landing 3.
        self.assertEqual(ask_last(*STAR_AND_HUB, shares(0, 10, 33, 9, 0, 0)), would_leave(2))
        # {1}, {4}, {1, 4} and more would leave: just {1} and {1, 4} have landing 1.
        self.assertEqual(ask_last(*STAR_AND_HUB, shares(0, 11, 15, 15, 11, 0)), would_leave(4))

    def test_many_groups(self):
        self.assertEqual(ask_last(*STAR_AND_HUB, shares(0, 52, 0, 0, 0, 0)), would_leave(1))
        self.assertEqual(ask_last(*STAR_AND_HUB, shares(0, 0, 52, 0, 0, 0)), would_leave(2))
        self.assertEqual(ask_last(*STAR_AND_HUB, shares(0, 0, 0, 52, 0, 0)), would_leave(3))
        self.assertEqual(ask_last(*STAR_AND_HUB, shares(0, 0, 0, 0, 52, 0)), would_leave(4))
        self.assertEqual(ask_last(*STAR_AND_HUB, shares(0, 26, 26, 0, 0, 0)), would_leave(1))
        self.assertEqual(ask_last(*STAR_AND_HUB, shares(0, 0, 26, 26, 0, 0)), would_leave(2, 3))


class OtherPlaces(unittest.TestCase):
    def test_what_they_pay_counts_for_nothing(self):
        for gate, other in ((0, 0), (5, 0), (0, 5), (GREATEST, GREATEST)):
            self.assertEqual(ask_last(*SHARED, shares(gate, other, 40, 34)), [1])
            self.assertEqual(ask_last(*SHARED, shares(gate, other, 56, 18)), would_leave(2))

    def test_they_pay_no_part_of_the_cost(self):
        self.assertEqual(ask_last(*SHARED, shares(74, 0, 0, 0)), [-3])
        self.assertEqual(ask_last(*SHARED, shares(0, 74, 0, 0)), [-3])
        self.assertEqual(ask_last(*SHARED, shares(1, 1, 36, 36)), [-3])

    def test_a_landing_no_more(self):
        self.assertEqual(ask(*SHARED, load(3, 0), shares(0, 0, 55, 19), shares(0, 0, 40, 34))[8:], [[4], [1], [-3]])


class WithoutLandings(unittest.TestCase):
    def test_none_leaves(self):
        for paid in (0, 7, GREATEST):
            self.assertEqual(ask_last(shares(paid)), [1])
            self.assertEqual(ask_last(begins(3), shares(paid, 0, paid)), [1])
            self.assertEqual(ask_last(begins(2), road(0, 1, 0, 5), road(0, 1, 9, 5), shares(paid, paid)), [1])


class Refused(unittest.TestCase):
    def test_not_a_number_for_each_place(self):
        for paid in ((), (74,), (0, 40, 34), (0, 0, 40, 34, 0), [0] * 5, (0, 0, 40, 34) * 5, [GREATEST] * 20):
            self.assertEqual(ask(*SHARED, shares(*paid), shares(0, 0, 40, 34))[8:], [[-1], [1]], paid)
        self.assertEqual(ask(shares(), shares(0, 0), shares(0)), [[-1], [-1], [1]])

    def test_a_number_for_each_of_the_places_that_are_there_now(self):
        for places in range(1, 8):
            told = ask(begins(4), begins(places), *[shares(*[0] * k) for k in range(10)])[2:]
            self.assertEqual(told, [[1] if k == places else [-1] for k in range(10)])

    def test_no_set_joins_all_landings(self):
        self.assertEqual(ask_last(begins(2), load(1, 1), shares(0, 0)), [-6])
        self.assertEqual(ask_last(begins(3), road(0, 1, 5, 0), load(1, 1), load(2, 1), shares(0, 5, 0)), [-6])

    def test_not_together_what_the_cheapest_set_costs(self):
        for paid in ((0, 0, 40, 35), (0, 0, 40, 33), (0, 0, 0, 0), (0, 0, 0, 73), (0, 0, 75, 0), (0, 0, 55, 56)):
            self.assertEqual(ask_last(*SHARED, shares(*paid)), [-3], paid)
        self.assertEqual(ask_last(begins(2), road(0, 1, 0, 0), load(1, 1), shares(0, 1)), [-3])

    def test_the_greatest_shares(self):
        for paid in ([0, 0, GREATEST, GREATEST], [GREATEST] * 4, [0, 0, GREATEST, 0], [0, 0, 75, GREATEST]):
            self.assertEqual(ask_last(*SHARED, shares(*paid)), [-3], paid)
        self.assertEqual(ask_last(*STAR_AND_HUB, shares(*[GREATEST] * 6)), [-3])

    def test_of_several_the_one_told_first(self):
        not_joined = (begins(3), road(0, 1, 5, 0), load(1, 1), load(2, 1))
        for paid in ((), (0, 5), (0, 5, 0, 0), (9, 9, 9, 9)):
            self.assertEqual(ask_last(*not_joined, shares(*paid)), [-1], paid)
            self.assertEqual(ask_last(*SHARED, shares(*paid, 1)), [-3] if len(paid) == 3 else [-1], paid)
        for paid in ((0, 0, 0), (0, 9, 9), (GREATEST, GREATEST, GREATEST)):
            self.assertEqual(ask_last(*not_joined, shares(*paid)), [-6], paid)

    def test_refused_though_some_would_leave(self):
        self.assertEqual(ask_last(*SHARED, shares(0, 0, 56, 56)), [-3])


class Greatest(unittest.TestCase):
    def test_all_at_their_bounds(self):
        forest = (begins(7), *[road(k, k + 1, 100000, 100000) for k in range(6)],
                  *[load(i, 1000) for i in range(3, 7)])
        # Alone: 300 300 000, 400 400 000, 500 500 000 and 600 600 000; together 1 800 600 000.
        self.assertEqual(ask_last(*forest, shares(0, 0, 0, 300300000, 400100000, 500100000, 600100000)), [1])
        self.assertEqual(
            ask_last(*forest, shares(0, 0, 0, 300300001, 400100000, 500100000, 600099999)), would_leave(3))
        self.assertEqual(ask_last(*forest, shares(0, 0, 0, 0, 0, 0, 1800600000)), would_leave(6))
        self.assertEqual(
            ask_last(*forest, shares(0, 0, 0, 299999999, 400000000, 500000000, 600600001)), would_leave(6))
        self.assertEqual(
            ask_last(*forest, shares(0, 0, 0, 299999999, 400000000, 500000001, 600600000)), would_leave(5, 6))


class LeavesAllAsItWas(unittest.TestCase):
    def test_answered_or_refused(self):
        asked = (best(), shares(0, 0, 55, 19), load(1, 7), load(2, 0), load(3, 2), road(0, 3, 1, 1), best())
        as_it_was = ask(*SHARED, *asked)[8:]
        for paid in ((0, 0, 40, 34), (0, 0, 56, 18), (0, 0, 0, 0), (), (0, 0, 40, 35)):
            self.assertEqual(ask(*SHARED, shares(*paid), *asked)[9:], as_it_was, paid)

    def test_refused_as_not_joined(self):
        forest = (begins(2), load(1, 3))
        asked = (road(0, 1, 2, 1), shares(0, 5), best())
        self.assertEqual(ask(*forest, shares(0, 0), *asked)[3:], ask(*forest, *asked)[2:])


class BesideEveryWay(unittest.TestCase):
    """Many forests, each also weighed by trying every set, every way and every group."""

    def rows(self, draws, weighed):
        """Shares of one forest; the first three are together what the cheapest set costs, if there's one."""
        landings = sorted(weighed.loads)
        found = weighed.cheapest(landings)
        cost = 0 if found is None else found[0]
        rows = []
        for k in range(3):
            paid = [draws.below(9) for place in range(weighed.places)]
            for i, part in zip(landings, draws.parts(cost, len(landings))):
                paid[i] = part
            rows.append(paid)
        return [*rows, [part + 1 for part in rows[0]], rows[0][1:]]

    def compare(self, draws, forests):
        """How often each number was answered, and how often more than one group would leave."""
        seen = {-1: 0, -3: 0, -6: 0, 0: 0, 1: 0, "several": 0}
        for forest in forests:
            weighed = Weighed(*forest)
            rows = self.rows(draws, weighed)
            told = ask(*forest_calls(*forest), *[shares(*row) for row in rows])[-len(rows):]
            self.assertEqual(told, [weighed.shares(row) for row in rows], (forest, rows))
            for answer, row in zip(told, rows):
                seen[answer[0]] += 1
                seen["several"] += answer[0] == 0 and len(weighed.leaving(row)) > 1
        return seen

    def test_any_forests(self):
        draws = Draws()
        seen = self.compare(draws, [draws.forest(6, 4, 3, 4) for k in range(200)])
        self.assertGreater(min(seen.values()), 5, seen)

    def test_joined_forests_with_small_costs(self):
        draws = Draws()
        seen = self.compare(draws, [draws.joined_forest(6, 3, 3) for k in range(80)])
        self.assertGreater(min(seen[0], seen[1], seen["several"]), 15, seen)

    def test_joined_forests_with_costs_of_all_sizes(self):
        draws = Draws()
        seen = self.compare(draws, [draws.joined_forest(30000, 200, 100) for k in range(80)])
        self.assertGreater(min(seen[0], seen[1], seen["several"]), 15, seen)


if __name__ == "__main__":
    unittest.main()
