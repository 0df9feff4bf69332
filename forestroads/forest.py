"""One forest: its places, roads and loads, which of its roads are the cheapest, and how their cost may be shared."""

GATE = 0

MOST_PLACES = 7
MOST_ROADS = 9
MOST_LANDINGS = 4
MOST_LOADS = 1000
MOST_COST = 100000

OUT_OF_BOUNDS = -1
NO_SUCH = -2
NOT_THE_COST = -3
TOO_MANY = -5
NOT_JOINED = -6


class Answer:
    """A number, and the lists that are told with it; a refusal has none."""

    def __init__(self, number, rows):
        self.number = number
        self.rows = rows


class Road:
    """A road between the places a and b: what building it costs, and carrying a load over it."""

    def __init__(self, a, b, build, carry):
        self.a = a
        self.b = b
        self.build = build
        self.carry = carry


class BuiltSet:
    """A set of roads, as if built: their numbers, what building them costs, and the mark of each place."""

    def __init__(self, numbers, roads, places):
        built = [roads[number] for number in numbers]
        self.numbers = numbers
        self.build = sum([road.build for road in built])
        self.marks = place_marks(built, places)

    def cost_with(self, loads):
        """What it costs with carrying these loads; None if it doesn't join all places that they come from."""
        cost = self.build
        for n, mark in zip(loads, self.marks):
            if n > 0:
                if mark == 0:
                    return None
                cost += n * (mark - 1)
        return cost


class Cheapest:
    """The cheapest of the sets that were offered: what it costs, how many are as cheap, the lowest of them."""

    def __init__(self):
        self.cost = None
        self.how_many = 0
        self.lowest = None

    def offer(self, cost, chosen):
        """Sets are offered lowest first, so a later one that is as cheap never becomes the lowest."""
        if self.cost is None or cost < self.cost:
            self.cost = cost
            self.how_many = 1
            self.lowest = chosen
        elif cost == self.cost:
            self.how_many += 1


class Forest:
    """The forest that a list of calls is about; loads tells for each place how many come from there."""

    def __init__(self):
        self.loads = [0]
        self.roads = []

    def begins(self, places):
        if places < 1 or places > MOST_PLACES:
            return OUT_OF_BOUNDS
        self.loads = [0] * places
        self.roads = []
        return 0

    def road(self, a, b, build, carry):
        if not self.has_place(a) or not self.has_place(b):
            return NO_SUCH
        if a == b or build > MOST_COST or carry > MOST_COST:
            return OUT_OF_BOUNDS
        if len(self.roads) == MOST_ROADS:
            return TOO_MANY
        self.roads.append(Road(a, b, build, carry))
        return len(self.roads) - 1

    def load(self, i, n):
        if not self.has_place(i):
            return NO_SUCH
        if n > MOST_LOADS or i == GATE:
            return OUT_OF_BOUNDS
        before = self.loads[i]
        if before == 0 and n > 0 and len(self.landings()) == MOST_LANDINGS:
            return TOO_MANY
        self.loads[i] = n
        return before

    def best(self):
        cheapest = cheapest_for(self.loads, self.every_set())
        if cheapest.cost is None:
            return refusal(NOT_JOINED)
        lowest = cheapest.lowest
        return Answer(cheapest.cost, [[cheapest.how_many, lowest.build], lowest.numbers, lowest.marks])

    def check(self, numbers):
        if not rise(numbers) or not all([number < len(self.roads) for number in numbers]):
            return refusal(NO_SUCH)
        built = BuiltSet(numbers, self.roads, len(self.loads))
        cost = built.cost_with(self.loads)
        if cost is None:
            return refusal(NOT_JOINED)
        return Answer(cost, [[built.build], built.marks])

    def alone(self, group):
        landings = self.landings()
        if not rise(group) or not all([i in landings for i in group]):
            return refusal(NO_SUCH)
        cheapest = cheapest_for(self.loads_from(group), self.every_set())
        if cheapest.cost is None:
            return refusal(NOT_JOINED)
        return Answer(cheapest.cost, [cheapest.lowest.numbers])

    def shares(self, paid):
        if len(paid) != len(self.loads):
            return refusal(OUT_OF_BOUNDS)
        # Marking the places is the greater work, and it is the same for every group.
        sets = self.every_set()
        cheapest = cheapest_for(self.loads, sets)
        if cheapest.cost is None:
            return refusal(NOT_JOINED)
        if paid_together(self.landings(), paid) != cheapest.cost:
            return refusal(NOT_THE_COST)
        for group in groups_earliest_first(self.landings()):
            if cheapest_for(self.loads_from(group), sets).cost < paid_together(group, paid):
                return Answer(0, [group])
        return Answer(1, [])

    def has_place(self, i):
        return i < len(self.loads)

    def landings(self):
        return [i for i, n in enumerate(self.loads) if n > 0]

    def loads_from(self, group):
        """The loads of this group's landings alone, for each place."""
        return [n if i in group else 0 for i, n in enumerate(self.loads)]

    def every_set(self):
        """Every set of the forest's roads, lowest first."""
        return [BuiltSet(numbers, self.roads, len(self.loads)) for numbers in sets_lowest_first(len(self.roads))]


def refusal(number):
    return Answer(number, [])


def rise(numbers):
    return all([number < higher for number, higher in zip(numbers, numbers[1:])])


def paid_together(group, paid):
    return sum([paid[i] for i in group])


def cheapest_for(loads, sets):
    """The cheapest of the sets, which come lowest first, for these loads; its cost is None if none joins them."""
    cheapest = Cheapest()
    for built in sets:
        cost = built.cost_with(loads)
        if cost is not None:
            cheapest.offer(cost, built)
    return cheapest


def sets_lowest_first(how_many):
    """Every set of so many roads, as their numbers, rising."""
    sets = [[]]
    # Each road is higher than those before it, so all sets with it come behind all sets without it.
    for number in range(how_many):
        sets = sets + [without + [number] for without in sets]
    return sets


def groups_earliest_first(landings):
    """Every group of these landings, which rise; the landings of each rise too."""
    groups = [[]]
    # Each landing is lower than those taken before it, so all groups with it come behind all groups without it.
    for landing in reversed(landings):
        groups = groups + [[landing] + without for without in groups]
    return groups


def place_marks(built, places):
    """For each place 0 if the built roads don't join it, else 1 more than what carrying a load from there costs."""
    marks = [0] * places
    marks[GATE] = 1
    # A cheapest way need not pass a place twice, so it has fewer roads than there are places.
    for step in range(places - 1):
        for road in built:
            extend_ways(marks, road.a, road.b, road.carry)
            extend_ways(marks, road.b, road.a, road.carry)
    return marks


def extend_ways(marks, nearer, farther, carry):
    """Mark the farther place by way of the nearer one, where that joins it or makes carrying cheaper."""
    if marks[nearer] == 0:
        return
    mark = marks[nearer] + carry
    if marks[farther] == 0 or mark < marks[farther]:
        marks[farther] = mark
