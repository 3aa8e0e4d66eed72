"""Hands: the grips of held stops, and what a grip costs.

A grip is a tuple: its position, and a tuple of the fingers at the held stops, by courses.
"""

LAST_POSITION = 15
FINGERS = (1, 2, 3, 4)

# The ways to take so many of the fingers 2 to 4 (from none on), the lower ones first.
UPPER_FINGERS = (((),), ((2,), (3,), (4,)), ((2, 3), (2, 4), (3, 4)), ((2, 3, 4),))


class Hand:
    """Tells the grips of held stops, and works out each only once."""

    def __init__(self):
        self.known = {}

    def grips(self, frets):
        """The grips, in their order, of held stops at these frets, a tuple by courses."""
        # Grips depend on the courses' order alone, so the frets are enough.
        if frets not in self.known:
            self.known[frets] = grips_at(frets)
        return self.known[frets]


def grips_at(frets):
    """The grips, in their order, of held stops at these frets."""
    if not frets:
        return [(position, ()) for position in range(1, LAST_POSITION + 1)]
    found = []
    for fingers in fingerings(frets):
        # Finger f at a fret needs a position from fret - f to fret - f + 2.
        lowest = [fret - finger for fret, finger in zip(frets, fingers)]
        for position in range(max(1, max(lowest)), min(LAST_POSITION, min(lowest) + 2) + 1):
            found.append((position, fingers))
    return sorted(found)


def fingerings(frets):
    """The ways to give fingers to these frets, whatever the position."""
    # A lower finger is at a lower fret, or at the same one on a course with a greater number: so along this
    # order no finger is below the one before it, and only finger 1 comes more than once, all on one fret.
    order = sorted(range(len(frets)), key=lambda k: (frets[k], -k))
    found = []
    for first_fingers in range(frets.count(min(frets)) + 1):
        others = len(frets) - first_fingers
        if others < len(UPPER_FINGERS):
            for upper in UPPER_FINGERS[others]:
                found.append(by_courses(order, (1,) * first_fingers + upper))
    return found


def by_courses(order, fingers):
    """The fingers given along this order, as they stand by courses."""
    given = [0] * len(order)
    for k, finger in zip(order, fingers):
        given[k] = finger
    return tuple(given)


def grip_cost(frets, grip, weights):
    """What a grip of held stops at these frets costs."""
    cost = 0
    for finger in FINGERS:
        stopped = [fret for fret, given in zip(frets, grip[1]) if given == finger]
        if stopped:
            cost += weights[finger] + weights[5] * abs(stopped[0] - (grip[0] + finger - 1))
        if len(stopped) > 1:
            cost += weights[6]
    return cost
