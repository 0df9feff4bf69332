"""The interface: a list of calls on one new forest, and the list of what they answer."""

from forestroads.forest import Forest

BEGINS = 0
ROAD = 1
LOAD = 2

# How many numbers stand behind a call's own: begins, road, load, best.
NUMBERS_BEHIND = (1, 4, 2, 0)


def answers(calls):
    """What each of these calls answers, behind how many numbers that is."""
    forest = Forest()
    told = []
    at = 0
    while at < len(calls):
        kind = calls[at]
        following = at + 1 + NUMBERS_BEHIND[kind]
        answer = answer_of(forest, kind, calls[at + 1:following])
        told.append(len(answer))
        told.extend(answer)
        at = following
    return told


def answer_of(forest, kind, given):
    """What the forest answers to one call with the numbers given to it."""
    if kind == BEGINS:
        return [forest.begins(given[0])]
    if kind == ROAD:
        return [forest.road(given[0], given[1], given[2], given[3])]
    if kind == LOAD:
        return [forest.load(given[0], given[1])]
    return answer_with_lists(forest.best())


def answer_with_lists(answer):
    """The answer's number, then each of its lists behind how many numbers it has."""
    told = [answer.number]
    for row in answer.rows:
        told.append(len(row))
        told.extend(row)
    return told
