"""One forest: its places, roads and loads, and which of its roads are the cheapest."""

GATE = 0

MOST_PLACES = 7
MOST_ROADS = 9
MOST_LANDINGS = 4
MOST_LOADS = 1000
MOST_COST = 100000

OUT_OF_BOUNDS = -1
NO_SUCH = -2
TOO_MANY = -5
NOT_JOINED = -6


class Answer:
    """A number, and the lists that are told with it; a refusal has none."""

    def __init__(self, number, rows):
        self.number = number
        self.rows = rows


class Road:
    """A road between the places a and b: what building it costs, and carrying a load over it."""

    def __init__(self, a, b, build, carry):
        self.a = a
        self.b = b
        self.build = build
        self.carry = carry


class Cheapest:
    """The cheapest of the sets that were offered: what it costs, how many are as cheap, the lowest of them."""

    def __init__(self):
        self.cost = None
        self.how_many = 0
        self.lowest = []

    def offer(self, cost, chosen):
        """Sets are offered lowest first, so a later one that is as cheap never becomes the lowest."""
        if self.cost is None or cost < self.cost:
            self.cost = cost
            self.how_many = 1
            self.lowest = chosen
        elif cost == self.cost:
            self.how_many += 1


class Forest:
    """The forest that a list of calls is about; loads tells for each place how many come from there."""

    def __init__(self):
        self.loads = [0]
        self.roads = []

    def begins(self, places):
        if places < 1 or places > MOST_PLACES:
            return OUT_OF_BOUNDS
        self.loads = [0] * places
        self.roads = []
        return 0

    def road(self, a, b, build, carry):
        if not self.has_place(a) or not self.has_place(b):
            return NO_SUCH
        if a == b or build > MOST_COST or carry > MOST_COST:
            return OUT_OF_BOUNDS
        if len(self.roads) == MOST_ROADS:
            return TOO_MANY
        self.roads.append(Road(a, b, build, carry))
        return len(self.roads) - 1

    def load(self, i, n):
        if not self.has_place(i):
            return NO_SUCH
        if n > MOST_LOADS or i == GATE:
            return OUT_OF_BOUNDS
        before = self.loads[i]
        if before == 0 and n > 0 and self.landings() == MOST_LANDINGS:
            return TOO_MANY
        self.loads[i] = n
        return before

    def best(self):
        cheapest = cheapest_sets(self.roads, self.loads)
        if cheapest.cost is None:
            return Answer(NOT_JOINED, [])
        built = [self.roads[number] for number in cheapest.lowest]
        counts = [cheapest.how_many, building_cost(built)]
        marks = place_marks(built, len(self.loads))
        return Answer(cheapest.cost, [counts, cheapest.lowest, marks])

    def has_place(self, i):
        return i < len(self.loads)

    def landings(self):
        return len([n for n in self.loads if n > 0])


def cheapest_sets(roads, loads):
    """The cheapest sets of these roads for these loads; their cost is None if no set joins all landings."""
    cheapest = Cheapest()
    for chosen in sets_lowest_first(len(roads)):
        cost = set_cost([roads[number] for number in chosen], loads)
        if cost is not None:
            cheapest.offer(cost, chosen)
    return cheapest


def sets_lowest_first(how_many):
    """Every set of so many roads, as their numbers, rising."""
    sets = [[]]
    # Each road is higher than those before it, so all sets with it come behind all sets without it.
    for number in range(how_many):
        sets = sets + [without + [number] for without in sets]
    return sets


def set_cost(built, loads):
    """What the built roads cost with carrying these loads; None if they don't join all landings."""
    cost = building_cost(built)
    for n, mark in zip(loads, place_marks(built, len(loads))):
        if n > 0:
            if mark == 0:
                return None
            cost += n * (mark - 1)
    return cost


def building_cost(built):
    return sum([road.build for road in built])


def place_marks(built, places):
    """For each place 0 if the built roads don't join it, else 1 more than what carrying a load from there costs."""
    marks = [0] * places
    marks[GATE] = 1
    # A cheapest way need not pass a place twice, so it has fewer roads than there are places.
    for step in range(places - 1):
        for road in built:
            extend_ways(marks, road.a, road.b, road.carry)
            extend_ways(marks, road.b, road.a, road.carry)
    return marks


def extend_ways(marks, nearer, farther, carry):
    """Mark the farther place by way of the nearer one, where that joins it or makes carrying cheaper."""
    if marks[nearer] == 0:
        return
    mark = marks[nearer] + carry
    if marks[farther] == 0 or mark < marks[farther]:
        marks[farther] = mark
