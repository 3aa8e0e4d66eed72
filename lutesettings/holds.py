"""Holds: a moment's placings with the grips that go with them.

A placing is a tuple of stops, course and fret, by courses. A hold is a tuple: its placing and its grip.
"""

from lutesettings.placings import Placings


class HoldSearch:
    """Goes through a moment's placings, course by course, and keeps the holds that it comes to."""

    def __init__(self, courses, notes, hand, most):
        self.placings = Placings(courses, notes)
        self.hand = hand
        self.most = most
        self.holds = []
        self.go_on(0, self.placings.whole, (), ())

    def go_on(self, course, left, stops, frets):
        """Add the holds that begin with these stops, held at these frets, with what's left from this course on."""
        # Taking held stops away keeps a grip, so where there's none yet, there's none further on.
        if len(self.holds) > self.most or not self.hand.grips(frets):
            return
        if left == 0:
            self.holds.extend([(stops, grip) for grip in self.hand.grips(frets)])
            return
        if self.placings.count_from(course, left) == 0:
            return
        for fret, unit, mask in self.placings.choices[course]:
            if (left & mask) != 0:
                held = frets + (fret,) if fret > 0 else frets
                self.go_on(course + 1, left - unit, stops + ((course + 1, fret),), held)
        self.go_on(course + 1, left, stops, frets)


def holds_of(courses, notes, hand, most):
    """The holds of a moment's notes in their order; if there are more than most, more than most of them."""
    return HoldSearch(courses, notes, hand, most).holds


def can_be_held(courses, notes, hand):
    """Whether a moment's notes have a hold."""
    # A course that's open alone may always take its note: then no more is held than before, and a grip stays
    # one. So what such courses can take needs no search, and few notes and courses are left.
    left = list(notes)
    stopped = []
    for course in courses:
        if len(course) > 1:
            stopped.append(course)
        elif course[0] in left:
            left.remove(course[0])
    return holds_of(stopped, left, hand, 0) != []
