"""Songs' texts: what a song's bytes tell, and where they are at fault.

A song is a list of lines, each a tuple: its length and its notes. A moment's notes are a list of
intervals; a bar lasts nothing, so its length is 0.
"""

from lutesettings.cursors import Cursor, END, Fault
from lutesettings.intervals import read_interval, width

NEW_LINE = 10
BLANK = 32
COMMA = 44
POINT = 46
BAR_SIGN = 124

# "song" and the end of its line.
FIRST_LINE = (115, 111, 110, 103, 10)

# The letters x, t, s, e, q, h, w.
LENGTHS = {120: 1, 116: 2, 115: 4, 101: 8, 113: 16, 104: 32, 119: 64}

MOST_LINES = 512
MOST_NOTES = 14


def read_song(text):
    """The lines of the song whose text this is; Fault where it's none."""
    cursor = Cursor(text, 0, len(text))
    for byte in FIRST_LINE:
        cursor.take(byte)
    lines = []
    length = 0
    while cursor.byte() != END:
        if len(lines) == MOST_LINES:
            raise Fault(cursor.place)
        if cursor.byte() == BAR_SIGN:
            cursor.advance()
            lines.append((0, []))
        else:
            length = read_length(cursor, length)
            lines.append((length, read_notes(cursor)))
        cursor.take(NEW_LINE)
    # No moment lasts 0: then none has been read.
    if length == 0:
        raise Fault(cursor.place)
    return lines


def read_length(cursor, before):
    """The length of the moment that begins here; before is that of the moment before it, 0 if there's none."""
    start = cursor.place
    if cursor.byte() == BLANK and before != 0:
        cursor.advance()
        return before
    length = read_length_sign(cursor)
    cursor.take(BLANK)
    if length == before:
        raise Fault(start)
    return length


def read_length_sign(cursor):
    """The length whose sign stands here."""
    letter = cursor.byte()
    if letter not in LENGTHS:
        raise Fault(cursor.place)
    cursor.advance()
    length = LENGTHS[letter]
    if length == 1 or cursor.byte() != POINT:
        return length
    cursor.advance()
    return length + length // 2


def read_notes(cursor):
    """The notes that stand here, up to what must be the line's end."""
    if cursor.byte() == POINT:
        cursor.advance()
        return []
    notes = [read_note(cursor)]
    while cursor.byte() == COMMA:
        cursor.advance()
        cursor.take(BLANK)
        start = cursor.place
        if len(notes) == MOST_NOTES:
            raise Fault(start)
        note = read_note(cursor)
        if width(note) < width(notes[-1]):
            raise Fault(start)
        notes.append(note)
    return notes


def read_note(cursor):
    """The interval whose text stands here, up to a comma, the line's end or the text's."""
    start = cursor.place
    while cursor.byte() not in (COMMA, NEW_LINE, END):
        cursor.advance()
    return read_interval(cursor.text, start, cursor.place)
