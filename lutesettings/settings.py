"""Settings of a song's moments on an instrument: the cheapest, how many there are, and the first of them."""

from lutesettings.hands import FINGERS, grip_cost

# More than any fret: a place is a bit, course by course.
PLACES_ON_COURSE = 16


class Stance:
    """Holds of a moment that are held alike, so that they cost the same and go on at the same cost.

    They differ in open strings alone. placing is that of the first of them, times how many they are; touched
    tells of each finger the places that it stops, a bit each.
    """

    def __init__(self, placing, position, touched, cost):
        self.placing = placing
        self.position = position
        self.touched = touched
        self.cost = cost
        self.times = 0


def stances_of(holds, weights):
    """The stances of a moment's holds, in the order of the first hold of each."""
    stances = {}
    for placing, grip in holds:
        held = [stop for stop in placing if stop[1] > 0]
        touched = touched_places(held, grip[1])
        key = (grip[0], touched)
        if key not in stances:
            cost = grip_cost([fret for course, fret in held], grip, weights)
            stances[key] = Stance(placing, grip[0], touched, cost)
        stance = stances[key]
        stance.times += 1
    return list(stances.values())


def touched_places(held, fingers):
    """For each finger the places that it stops, a bit each."""
    touched = [0] * len(FINGERS)
    for stop, finger in zip(held, fingers):
        touched[finger - 1] |= 1 << (PLACES_ON_COURSE * (stop[0] - 1) + stop[1])
    return tuple(touched)


class WayOn:
    """What it costs to go on to each stance of the next moment, and from there to the end.

    Costs are lists by these stances. Many holds share a position or what a finger touches, so lists that were
    worked out are used again.
    """

    def __init__(self, stances, rests, weights):
        self.positions = [stance.position for stance in stances]
        self.columns = [[stance.touched[k] for stance in stances] for k in range(len(FINGERS))]
        self.rests = rests
        self.weights = weights
        self.known_nears = {}
        self.known_lowers = {}
        self.known_uppers = {}
        self.known_moves = {}

    def totals(self, stance):
        """All that's to be paid behind this stance."""
        return added(self.lower_costs(stance.position, stance.touched), self.upper_costs(stance.touched))

    def lower_costs(self, position, touched):
        """What the rest, the change of position, and the fingers 1 and 2 cost."""
        key = (position, touched[0], touched[1])
        if key not in self.known_lowers:
            moves = added(self.moves(0, touched[0]), self.moves(1, touched[1]))
            self.known_lowers[key] = added(self.near(position), moves)
        return self.known_lowers[key]

    def upper_costs(self, touched):
        """What the fingers 3 and 4 cost."""
        key = (touched[2], touched[3])
        if key not in self.known_uppers:
            self.known_uppers[key] = added(self.moves(2, touched[2]), self.moves(3, touched[3]))
        return self.known_uppers[key]

    def near(self, position):
        """What the rest and the change of position cost."""
        if position not in self.known_nears:
            weight = self.weights[0]
            self.known_nears[position] = [
                rest + weight * abs(position - other) for rest, other in zip(self.rests, self.positions)]
        return self.known_nears[position]

    def moves(self, k, before):
        """What a finger costs that touches these places before."""
        key = (k, before)
        if key not in self.known_moves:
            weight = self.weights[7] if before != 0 else 0
            self.known_moves[key] = [
                weight if after != 0 and (before & after) == 0 else 0 for after in self.columns[k]]
        return self.known_moves[key]


def added(costs, others):
    """The sums of two lists of costs."""
    return [cost + other for cost, other in zip(costs, others)]


class Settings:
    """The settings of a song's moments, each told by its stances.

    costs and counts tell, for each moment and stance, what it costs at least from there to the end, and in how
    many ways.
    """

    def __init__(self, moments, weights):
        self.moments = moments
        self.weights = weights
        last = moments[-1]
        self.costs = [[stance.cost for stance in last]]
        self.counts = [[stance.times for stance in last]]
        backwards = list(reversed(moments))
        for stances, following in zip(backwards[1:], backwards):
            self.add_before(stances, following)
        self.costs.reverse()
        self.counts.reverse()
        self.firsts = [cost + weights[8] * (stance.position - 1) for cost, stance in zip(self.costs[0], moments[0])]

    def add_before(self, stances, following):
        """Add the costs and counts of a moment's stances; those of the following moment were added last."""
        way = WayOn(following, self.costs[-1], self.weights)
        counts_behind = self.counts[-1]
        costs = []
        counts = []
        for stance in stances:
            totals = way.totals(stance)
            least = min(totals)
            costs.append(stance.cost + least)
            counts.append(stance.times * count_of_least(totals, least, counts_behind))
        self.costs.append(costs)
        self.counts.append(counts)

    def least_cost(self):
        """What the cheapest settings cost."""
        return min(self.firsts)

    def how_many(self):
        """How many settings cost as little."""
        return count_of_least(self.firsts, self.least_cost(), self.counts[0])

    def first_placings(self):
        """The placings of the first of the cheapest settings."""
        totals = self.firsts
        chosen = []
        for k, stances in enumerate(self.moments):
            if k > 0:
                totals = WayOn(stances, self.costs[k], self.weights).totals(chosen[-1])
            chosen.append(stances[totals.index(min(totals))])
        return [stance.placing for stance in chosen]


def count_of_least(totals, least, counts):
    """The counts together where the total is the least."""
    return sum([count for total, count in zip(totals, counts) if total == least])
