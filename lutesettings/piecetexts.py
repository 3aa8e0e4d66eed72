"""Pieces' texts in their three kinds: 0 French, 1 Italian, 2 German.

A piece is a list of lines; a moment's stops are a list of tuples, course and fret, by courses.
"""

from lutesettings.cursors import BLANK, Cursor, Fault, NEW_LINE, POINT
from lutesettings.lines import read_lines, write_lines

FRENCH = 0
ITALIAN = 1

KIND_NAMES = ("french", "italian", "german")

# The sign of each fret from 0 on.
FRENCH_FRETS = "abcdefghiklmnopq"
ITALIAN_FRETS = "0123456789xyzvuw"
# The signs of course 6 in a German text, from the open string on.
GERMAN_SIXTH = "+ABCDEFGHIKLMNOP"
GERMAN_CROSSINGS = "abcdefghiklmnopqrstvxyz&9"

# The sign of each course from 7 on.
FRENCH_BASSES = ("a", "/a", "//a", "///a", "4", "5", "6", "7")
ITALIAN_BASSES = ("7", "8", "9", "10", "11", "12", "13", "14")

FRETS = 16
FIRST_BASS = 7
LAST_COURSE = 14

# What a point tells in a fret's place.
NO_STOP = -1


def read_piece(text):
    """The lines of the piece whose text this is; Fault where it's none."""
    cursor = Cursor(text, 0, len(text))
    names = sign_table([(name, kind) for kind, name in enumerate(KIND_NAMES)])
    kind = read_sign(cursor, names)
    cursor.take(NEW_LINE)
    if kind == FRENCH:
        return read_lines_by_frets(cursor, FRENCH_FRETS, FRENCH_BASSES, (1, 2, 3, 4, 5, 6))
    if kind == ITALIAN:
        return read_lines_by_frets(cursor, ITALIAN_FRETS, ITALIAN_BASSES, (6, 5, 4, 3, 2, 1))
    signs = german_table()
    return read_lines(cursor, lambda here: read_german_stops(here, signs))


def read_lines_by_frets(cursor, fret_signs, bass_signs, courses):
    """The lines that stand from here on: a fret's sign for each of these courses, then the basses' signs."""
    frets = fret_table(fret_signs)
    basses = bass_table(bass_signs)
    return read_lines(cursor, lambda here: read_stops_by_frets(here, frets, basses, courses))


def sign_table(told):
    """A dict of what signs tell, by the tuples of their bytes; the beginnings of signs tell None."""
    table = {}
    for sign, meaning in told:
        letters = tuple([ord(letter) for letter in sign])
        for length in range(len(letters)):
            table.setdefault(letters[:length], None)
        table[letters] = meaning
    return table


def read_sign(cursor, table):
    """What the sign tells that stands here, taken as far as any sign goes on."""
    letters = ()
    while letters + (cursor.byte(),) in table:
        letters = letters + (cursor.byte(),)
        cursor.advance()
    if table[letters] is None:
        raise Fault(cursor.place)
    return table[letters]


def fret_table(signs):
    """What each fret's sign tells, and a point."""
    return sign_table([(sign, fret) for fret, sign in enumerate(signs)] + [(".", NO_STOP)])


def bass_table(signs):
    """The stop that each sign of a course from 7 on tells."""
    return sign_table([(sign, (FIRST_BASS + k, 0)) for k, sign in enumerate(signs)])


def german_table():
    """The stop that each German sign tells."""
    signs = []
    for course in range(1, FIRST_BASS):
        for fret in range(FRETS):
            signs.append((german_sign(course, fret), (course, fret)))
    for course in range(FIRST_BASS, LAST_COURSE + 1):
        signs.append((german_sign(course, 0), (course, 0)))
    return sign_table(signs)


def german_sign(course, fret):
    """A stop's sign in a German text."""
    if course >= FIRST_BASS:
        return f"-{course}"
    if course == 6:
        return GERMAN_SIXTH[fret]
    if fret == 0:
        return str(6 - course)
    crossing = GERMAN_CROSSINGS[5 * ((fret - 1) % 5) + 5 - course]
    return crossing * ((fret - 1) // 5 + 1)


def read_stops_by_frets(cursor, frets, basses, courses):
    """The stops that stand here, told by these signs."""
    stops = []
    for course in courses:
        fret = read_sign(cursor, frets)
        if fret != NO_STOP:
            stops.append((course, fret))
    stops = sorted(stops)
    while cursor.byte() == BLANK:
        cursor.advance()
        stops.append(read_lower_stop(cursor, basses, stops))
    return stops


def read_german_stops(cursor, signs):
    """The stops that stand here in a German text."""
    if cursor.byte() == POINT:
        cursor.advance()
        return []
    stops = [read_sign(cursor, signs)]
    while cursor.byte() == BLANK:
        cursor.advance()
        stops.append(read_lower_stop(cursor, signs, stops))
    return stops


def read_lower_stop(cursor, signs, stops):
    """The stop whose sign stands here; its course must be below those of the stops before it."""
    start = cursor.place
    stop = read_sign(cursor, signs)
    if stops and stop[0] <= stops[-1][0]:
        raise Fault(start)
    return stop


def write_piece(kind, lines):
    """The bytes of the text, in this kind, of the piece that has these lines."""
    return write_lines(KIND_NAMES[kind], lines, lambda stops: stops_text(kind, stops))


def stops_text(kind, stops):
    """A moment's stops as a piece's text of this kind tells them."""
    if kind == FRENCH:
        return " ".join([upper_text(stops, FRENCH_FRETS)] + basses_texts(stops, FRENCH_BASSES))
    if kind == ITALIAN:
        upper = list(reversed(upper_text(stops, ITALIAN_FRETS)))
        return " ".join(["".join(upper)] + basses_texts(stops, ITALIAN_BASSES))
    if not stops:
        return "."
    return " ".join([german_sign(course, fret) for course, fret in stops])


def upper_text(stops, signs):
    """The six signs of the courses 1 to 6, course 1 first."""
    frets = dict(stops)
    return "".join([signs[frets[course]] if course in frets else "." for course in range(1, FIRST_BASS)])


def basses_texts(stops, signs):
    """The signs of the stops from course 7 on."""
    return [signs[course - FIRST_BASS] for course, fret in stops if course >= FIRST_BASS]
