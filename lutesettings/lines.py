"""Lines: the bars and moments of songs' and of pieces' texts.

A line is a tuple: its length, and its notes or stops as a list. A bar lasts nothing, so its length is 0.
"""

from lutesettings.cursors import BLANK, END, Fault, NEW_LINE, POINT

BAR_SIGN = 124

# The letters x, t, s, e, q, h, w.
LENGTHS = {120: 1, 116: 2, 115: 4, 101: 8, 113: 16, 104: 32, 119: 64}

LENGTH_SIGNS = {
    1: "x", 2: "t", 4: "s", 8: "e", 16: "q", 32: "h", 64: "w",
    3: "t.", 6: "s.", 12: "e.", 24: "q.", 48: "h.", 96: "w.",
}

MOST_LINES = 512


def read_lines(cursor, read_content):
    """The lines that stand from here to the text's end; read_content reads a moment's notes or stops."""
    lines = []
    length = 0
    while cursor.byte() != END:
        if len(lines) == MOST_LINES:
            raise Fault(cursor.place)
        if cursor.byte() == BAR_SIGN:
            cursor.advance()
            lines.append((0, []))
        else:
            length = read_length(cursor, length)
            lines.append((length, read_content(cursor)))
        cursor.take(NEW_LINE)
    # No moment lasts 0: then none has been read.
    if length == 0:
        raise Fault(cursor.place)
    return lines


def read_length(cursor, before):
    """The length of the moment that begins here; before is that of the moment before it, 0 if there's none."""
    start = cursor.place
    if cursor.byte() == BLANK and before != 0:
        cursor.advance()
        return before
    length = read_length_sign(cursor)
    cursor.take(BLANK)
    if length == before:
        raise Fault(start)
    return length


def read_length_sign(cursor):
    """The length whose sign stands here."""
    letter = cursor.byte()
    if letter not in LENGTHS:
        raise Fault(cursor.place)
    cursor.advance()
    length = LENGTHS[letter]
    if length == 1 or cursor.byte() != POINT:
        return length
    cursor.advance()
    return length + length // 2


def write_lines(first, lines, content_text):
    """The bytes of a text of these lines behind a first one; content_text tells a moment's notes or stops."""
    rows = [first]
    before = 0
    for length, content in lines:
        if length == 0:
            rows.append("|")
        else:
            sign = "" if length == before else LENGTH_SIGNS[length]
            rows.append(sign + " " + content_text(content))
            before = length
    return [ord(sign) for sign in "\n".join(rows) + "\n"]
