"""Instruments: their texts, and what their places sound.

An instrument is a list of its courses and basses, each a list of intervals: what it sounds open, then at
fret 1, 2 and so on, as far as a stop can be there.
"""

from lutesettings.cursors import BLANK, Cursor, END, Fault, NEW_LINE
from lutesettings.intervals import NINE, ZERO, is_within_bounds, read_interval, upon, width

UNISON = (0, 0, 0, 0, 1)

LETTER_B = 98
LETTER_C = 99
LETTER_F = 102

LEAST_LENGTH = 10000
MOST_LENGTH = 200000
MOST_LENGTH_DIGITS = 7

MOST_FRETS = 15
MOST_COURSES = 14
# Courses behind these are open alone in a piece, whether they have frets or not.
STOPPED_COURSES = 6


def read_instrument(text):
    """The instrument whose text this is; Fault where it's none."""
    cursor = Cursor(text, 0, len(text))
    read_string_length(cursor)
    frets = []
    while cursor.byte() == LETTER_F:
        frets.append(read_fret(cursor, frets))
    # One course at least: the first line behind the frets can be no other.
    courses = [read_course(cursor, frets, 0)]
    while cursor.byte() == LETTER_C:
        courses.append(read_course(cursor, frets, len(courses)))
    while cursor.byte() == LETTER_B:
        courses.append(read_bass(cursor, len(courses)))
    if cursor.byte() != END:
        raise Fault(cursor.place)
    return courses


def read_string_length(cursor):
    """Go behind the first line, which tells the strings' length; nothing here depends on it."""
    cursor.take_word("length ")
    start = cursor.place
    if cursor.byte() == ZERO:
        raise Fault(start)
    number = 0
    while ZERO <= cursor.byte() <= NINE:
        if cursor.place - start == MOST_LENGTH_DIGITS:
            raise Fault(cursor.place)
        number = number * 10 + cursor.byte() - ZERO
        cursor.advance()
    if not LEAST_LENGTH <= number <= MOST_LENGTH:
        raise Fault(start)
    cursor.take(NEW_LINE)


def read_fret(cursor, frets):
    """How far the fret raises whose line stands here, behind these frets."""
    begin_line(cursor, "fret", len(frets), MOST_FRETS)
    start = cursor.place
    fret = read_line_interval(cursor)
    before = frets[-1] if frets else UNISON
    if width(fret) <= width(before):
        raise Fault(start)
    cursor.take(NEW_LINE)
    return fret


def read_course(cursor, frets, courses_before):
    """What the course sounds whose line stands here."""
    begin_line(cursor, "course", courses_before, MOST_COURSES)
    start = cursor.place
    string = read_line_interval(cursor)
    sounds = [string]
    for fret in frets:
        sound = upon(fret, string)
        if not is_within_bounds(sound):
            raise Fault(start)
        sounds.append(sound)
    cursor.take(NEW_LINE)
    if courses_before < STOPPED_COURSES:
        return sounds
    return [string]


def read_bass(cursor, courses_before):
    """What the bass sounds whose line stands here."""
    begin_line(cursor, "bass", courses_before, MOST_COURSES)
    string = read_line_interval(cursor)
    cursor.take(NEW_LINE)
    return [string]


def begin_line(cursor, word, lines_before, most):
    """Go behind a line's first word and its blank; most lines of its kind may there be."""
    start = cursor.place
    cursor.take_word(word)
    if lines_before == most:
        raise Fault(start)
    cursor.take(BLANK)


def read_line_interval(cursor):
    """The interval whose text stands here, up to the line's end or the text's."""
    start = cursor.place
    while cursor.byte() not in (NEW_LINE, END):
        cursor.advance()
    return read_interval(cursor.text, start, cursor.place)


def song_of_piece(courses, lines):
    """The lines of the song that a piece's lines sound on an instrument, or None if they don't fit it."""
    sung = []
    for length, stops in lines:
        for course, fret in stops:
            if course > len(courses) or fret >= len(courses[course - 1]):
                return None
        notes = [courses[course - 1][fret] for course, fret in stops]
        sung.append((length, sorted(notes, key=width)))
    return sung
