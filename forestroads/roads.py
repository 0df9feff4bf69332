"""The interface: a list of calls on one new forest, and the list of what they answer."""

from forestroads.forest import Forest

BEGINS = 0
ROAD = 1
LOAD = 2
BEST = 3
CHECK = 4
ALONE = 5

# How many numbers stand behind a call's own: begins, road, load, best. Later calls have a row, which tells how many.
NUMBERS_BEHIND = (1, 4, 2, 0)


def answers(calls):
    """What each of these calls answers, behind how many numbers that is."""
    forest = Forest()
    told = []
    at = 0
    while at < len(calls):
        kind = calls[at]
        start = at + 1
        if kind < len(NUMBERS_BEHIND):
            following = start + NUMBERS_BEHIND[kind]
        else:
            start = at + 2
            following = start + calls[at + 1]
        answer = answer_of(forest, kind, calls[start:following])
        told.append(len(answer))
        told.extend(answer)
        at = following
    return told


def answer_of(forest, kind, given):
    """What the forest answers to one call with the numbers given to it."""
    if kind == BEGINS:
        return [forest.begins(given[0])]
    if kind == ROAD:
        return [forest.road(given[0], given[1], given[2], given[3])]
    if kind == LOAD:
        return [forest.load(given[0], given[1])]
    if kind == BEST:
        return answer_with_lists(forest.best())
    if kind == CHECK:
        return answer_with_lists(forest.check(given))
    if kind == ALONE:
        return answer_with_lists(forest.alone(given))
    return answer_with_lists(forest.shares(given))


def answer_with_lists(answer):
    """The answer's number, then each of its lists behind how many numbers it has."""
    told = [answer.number]
    for row in answer.rows:
        told.append(len(row))
        told.extend(row)
    return told
