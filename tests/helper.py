"""What the tests share: calls as the interface writes them, answers taken apart, a second way to the answers."""

from functools import reduce
from itertools import combinations

from forestroads.roads import answers

GREATEST = 4294967295


def begins(places):
    return [0, places]


def road(a, b, build, carry):
    return [1, a, b, build, carry]


def load(i, n):
    return [2, i, n]


def best():
    return [3]


def check(*roads):
    return [4, len(roads), *roads]


def alone(*landings):
    return [5, len(landings), *landings]


def shares(*paid):
    return [6, len(paid), *paid]


def in_one_list(calls):
    return [number for call in calls for number in call]


def apart(told):
    """The answers of one list, a list each; fails where the counts don't fit."""
    found = []
    at = 0
    while at < len(told):
        behind = at + 1 + told[at]
        if told[at] < 1 or behind > len(told):
            raise AssertionError(f"no answer fits at {at} of {told}")
        found.append(told[at + 1:behind])
        at = behind
    return found


def ask(*calls):
    """What each call answers, all asked of one forest."""
    return apart(answers(in_one_list(calls)))


def ask_last(*calls):
    return ask(*calls)[-1]


def best_answer(cost, how_many, build, roads, marks):
    return [cost, 2, how_many, build, len(roads), *roads, len(marks), *marks]


def check_answer(cost, build, marks):
    return [cost, 1, build, len(marks), *marks]


def alone_answer(cost, roads):
    return [cost, len(roads), *roads]


def would_leave(*group):
    return [0, len(group), *group]


def forest_calls(places, roads, loads):
    """The calls that make this forest; roads are tuples, loads a dict."""
    return [begins(places), *[road(*one) for one in roads], *[load(i, n) for i, n in loads.items()]]


def cheapest_way(place, roads, passed=()):
    """What carrying a load from there costs, by trying every way; None if there's none."""
    if place == 0:
        return 0
    costs = []
    for a, b, build, carry in roads:
        for start, end in ((a, b), (b, a)):
            if start == place and end not in passed:
                rest = cheapest_way(end, roads, (*passed, place))
                if rest is not None:
                    costs.append(carry + rest)
    return min(costs, default=None)


class Weighed:
    """The second way: a forest of which every set is weighed by every way; roads are tuples, loads a dict."""

    def __init__(self, places, roads, loads):
        self.places = places
        self.roads = roads
        self.loads = {i: n for i, n in loads.items() if n}
        self.ways = {}
        for size in range(len(roads) + 1):
            for numbers in combinations(range(len(roads)), size):
                chosen = [roads[k] for k in numbers]
                self.ways[numbers] = [cheapest_way(place, chosen) for place in range(places)]

    def build(self, numbers):
        return sum(self.roads[k][2] for k in numbers)

    def marks(self, numbers):
        return [0 if way is None else way + 1 for way in self.ways[numbers]]

    def cost(self, numbers, group):
        """What this set costs for the loads of this group; None if it doesn't join them."""
        ways = self.ways[numbers]
        if any(ways[i] is None for i in group):
            return None
        return self.build(numbers) + sum(self.loads[i] * ways[i] for i in group)

    def cheapest(self, group):
        """What the cheapest set for this group costs, and all sets as cheap, lowest first; None if there's none."""
        costs = {numbers: self.cost(numbers, group) for numbers in self.ways}
        least = min((cost for cost in costs.values() if cost is not None), default=None)
        if least is None:
            return None
        as_cheap = [numbers for numbers, cost in costs.items() if cost == least]
        return least, sorted(as_cheap, key=lambda numbers: sorted(numbers, reverse=True))

    def best(self):
        found = self.cheapest(self.loads)
        if found is None:
            return [-6]
        cost, sets = found
        return best_answer(cost, len(sets), self.build(sets[0]), sets[0], self.marks(sets[0]))

    def check(self, numbers):
        if tuple(numbers) not in self.ways:
            return [-2]
        cost = self.cost(tuple(numbers), self.loads)
        if cost is None:
            return [-6]
        return check_answer(cost, self.build(numbers), self.marks(tuple(numbers)))

    def alone(self, group):
        if list(group) != sorted(set(group)) or not set(group) <= set(self.loads):
            return [-2]
        found = self.cheapest(group)
        if found is None:
            return [-6]
        return alone_answer(found[0], found[1][0])

    def leaving(self, paid):
        """Every group of landings that would leave."""
        groups = [group for size in range(len(self.loads) + 1) for group in combinations(sorted(self.loads), size)]
        return [group for group in groups if self.cheapest(group)[0] < sum(paid[i] for i in group)]

    def shares(self, paid):
        if len(paid) != self.places:
            return [-1]
        found = self.cheapest(self.loads)
        if found is None:
            return [-6]
        if sum(paid[i] for i in self.loads) != found[0]:
            return [-3]
        leaving = self.leaving(paid)
        return would_leave(*reduce(earlier, leaving)) if leaving else [1]


def earlier(group, other):
    """Of two groups the one that doesn't have the lowest landing that just one of them has."""
    return other if min(set(group) ^ set(other)) in group else group


def expected_best(places, roads, loads):
    return Weighed(places, roads, loads).best()


class Draws:
    """Numbers that look drawn by chance, yet are always the same, so that a failure comes again."""

    def __init__(self):
        self.state = 7

    def below(self, bound):
        self.state = (self.state * 1103515245 + 12345) % 2147483648
        return self.state // 65536 % bound

    def some_of(self, numbers):
        return [number for number in numbers if self.below(2)]

    def forest(self, most_roads, build, carry, n):
        """Places, roads and loads, with costs and loads below these bounds."""
        places = 2 + self.below(6)
        roads = [self.road(places, build, carry) for k in range(self.below(most_roads + 1))]
        loads = {}
        for k in range(self.below(5)):
            loads[1 + self.below(places - 1)] = self.below(n)
        return places, roads, loads

    def road(self, places, build, carry):
        a = self.below(places)
        b = (a + 1 + self.below(places - 1)) % places
        return a, b, self.below(build), self.below(carry)

    def joined_forest(self, build, carry, n):
        """Like forest, with roads that join every place, three more, and mostly several landings."""
        places = 4 + self.below(3)
        roads = [(i, self.below(i), self.below(build), self.below(carry)) for i in range(1, places)]
        roads = roads + [self.road(places, build, carry) for k in range(3)]
        loads = {1 + self.below(places - 1): 1 + self.below(n) for k in range(4)}
        return places, roads, loads

    def parts(self, total, how_many):
        """So many numbers that are together the total."""
        # Two draws for a cut, as one alone is below 32768.
        cuts = sorted((self.below(32768) * 32768 + self.below(32768)) % (total + 1) for k in range(how_many - 1))
        return [high - low for low, high in zip([0, *cuts], [*cuts, total])]
