"""What the tests share: calls as the interface writes them, answers taken apart, a second way to the best roads."""

from itertools import combinations

from forestroads.roads import answers


def begins(places):
    return [0, places]


def road(a, b, build, carry):
    return [1, a, b, build, carry]


def load(i, n):
    return [2, i, n]


def best():
    return [3]


def in_one_list(calls):
    return [number for call in calls for number in call]


def apart(told):
    """The answers of one list, a list each; fails where the counts don't fit."""
    found = []
    at = 0
    while at < len(told):
        behind = at + 1 + told[at]
        if told[at] < 1 or behind > len(told):
            raise AssertionError(f"no answer fits at {at} of {told}")
        found.append(told[at + 1:behind])
        at = behind
    return found


def ask(*calls):
    """What each call answers, all asked of one forest."""
    return apart(answers(in_one_list(calls)))


def ask_last(*calls):
    return ask(*calls)[-1]


def best_answer(cost, how_many, build, roads, marks):
    return [cost, 2, how_many, build, len(roads), *roads, len(marks), *marks]


def cheapest_way(place, roads, passed=()):
    """What carrying a load from there costs, by trying every way; None if there's none."""
    if place == 0:
        return 0
    costs = []
    for a, b, build, carry in roads:
        for start, end in ((a, b), (b, a)):
            if start == place and end not in passed:
                rest = cheapest_way(end, roads, (*passed, place))
                if rest is not None:
                    costs.append(carry + rest)
    return min(costs, default=None)


def expected_best(places, roads, loads):
    """The answer of best, with every set weighed by every way; roads are tuples, loads a dict."""
    weighed = []
    for size in range(len(roads) + 1):
        for numbers in combinations(range(len(roads)), size):
            built = [roads[k] for k in numbers]
            ways = [cheapest_way(place, built) for place in range(places)]
            if all(ways[i] is not None for i, n in loads.items() if n):
                build = sum(one[2] for one in built)
                cost = build + sum(n * ways[i] for i, n in loads.items() if n)
                highest_first = sorted(numbers, reverse=True)
                weighed.append((cost, highest_first, build, [0 if w is None else w + 1 for w in ways]))
    if not weighed:
        return [-6]
    cost, highest_first, build, marks = min(weighed)
    how_many = sum(1 for one in weighed if one[0] == cost)
    return best_answer(cost, how_many, build, sorted(highest_first), marks)
