"""Placings: the ways in which a moment's notes can be had on an instrument.

What is left of a moment's notes is told as one whole number, four bits for each part of it: how many notes
in all, then how many of each different note. No moment has more than 14 notes, so four bits are enough.
"""

PART_BITS = 4
PART_MASK = 15


class Placings:
    """A moment's notes and where each can be had, course by course."""

    def __init__(self, courses, notes):
        units = note_units(notes)
        self.choices = [choices_on_course(course, units) for course in courses]
        self.whole = sum([units[note] for note in notes])
        self.counted = {}

    def count_from(self, course, left):
        """In how many ways what's left of the notes can be had on the courses from this one (from 0) on."""
        if left == 0:
            return 1
        if (left & PART_MASK) > len(self.choices) - course:
            return 0
        key = (course, left)
        if key not in self.counted:
            count = self.count_from(course + 1, left)
            for fret, unit, mask in self.choices[course]:
                if (left & mask) != 0:
                    count += self.count_from(course + 1, left - unit)
            self.counted[key] = count
        return self.counted[key]


def note_units(notes):
    """For each different note the number that stands for having it left once."""
    units = {}
    for note in notes:
        if note not in units:
            units[note] = 1 + (1 << (PART_BITS * (len(units) + 1)))
    return units


def choices_on_course(course, units):
    """The frets at which a course sounds one of the notes: fret, the note's unit, the bits that count it."""
    return [(fret, units[sound], PART_MASK * (units[sound] - 1))
            for fret, sound in enumerate(course) if sound in units]


def count_placings(courses, notes):
    """How many placings these notes have on an instrument's courses."""
    placings = Placings(courses, notes)
    return placings.count_from(0, placings.whole)
