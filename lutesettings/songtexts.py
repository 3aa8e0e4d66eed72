"""Songs' texts: what a song's bytes tell, where they are at fault, and the bytes that tell a song.

A song is a list of lines; a moment's notes are a list of intervals.
"""

from lutesettings.cursors import BLANK, Cursor, END, Fault, NEW_LINE, POINT
from lutesettings.intervals import interval_text, read_interval, width
from lutesettings.lines import read_lines, write_lines

COMMA = 44

FIRST_LINE = "song"

MOST_NOTES = 14


def read_song(text):
    """The lines of the song whose text this is; Fault where it's none."""
    cursor = Cursor(text, 0, len(text))
    cursor.take_word(FIRST_LINE)
    cursor.take(NEW_LINE)
    return read_lines(cursor, read_notes)


def read_notes(cursor):
    """The notes that stand here, up to what must be the line's end."""
    if cursor.byte() == POINT:
        cursor.advance()
        return []
    notes = [read_note(cursor)]
    while cursor.byte() == COMMA:
        cursor.advance()
        cursor.take(BLANK)
        start = cursor.place
        if len(notes) == MOST_NOTES:
            raise Fault(start)
        note = read_note(cursor)
        if width(note) < width(notes[-1]):
            raise Fault(start)
        notes.append(note)
    return notes


def read_note(cursor):
    """The interval whose text stands here, up to a comma, the line's end or the text's."""
    start = cursor.place
    while cursor.byte() not in (COMMA, NEW_LINE, END):
        cursor.advance()
    return read_interval(cursor.text, start, cursor.place)


def write_song(lines):
    """The bytes of the text of the song that has these lines."""
    return write_lines(FIRST_LINE, lines, notes_text)


def notes_text(notes):
    """A moment's notes as a song's text tells them."""
    if not notes:
        return "."
    return ", ".join([interval_text(note) for note in notes])
