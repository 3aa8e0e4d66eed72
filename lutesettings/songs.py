"""The calls. A refusal is a number below 0."""

from lutesettings.cursors import Fault
from lutesettings.intervals import is_interval, is_within_bounds, upon
from lutesettings.songtexts import read_song, write_song

BAD_NUMBERS = -1
TOO_LONG = -2
CANNOT_BE = -3
NO_SUCH_LINE = -4
NO_FIRST_TEXT = -6

MOST_BYTES = 65536


def judge(s):
    """How many lines but the first the song s has, or where its text is at fault."""
    if len(s) > MOST_BYTES:
        return [TOO_LONG]
    try:
        lines = read_song(s)
    except Fault as fault:
        return [NO_FIRST_TEXT, fault.place]
    return [len(lines)]


def sizes(s):
    """How many moments, bars and notes the song s has, and its moments' lengths together."""
    return asked_of_song(s, sizes_of_lines)


def line(k, s):
    """What line k of the song s is: 0 of a bar; of a moment its length, how many notes, and these."""
    return asked_of_song(s, lambda lines: numbers_of_line(lines, k))


def raised(s, x):
    """The text of the song s with x upon each of its notes."""
    return asked_of_song(s, lambda lines: raised_text(lines, x))


def asked_of_song(s, answer):
    """What answer tells of the lines of the song s, or why there are none."""
    if len(s) > MOST_BYTES:
        return [TOO_LONG]
    lines = read_or_none(read_song, s)
    if lines is None:
        return [NO_FIRST_TEXT]
    return answer(lines)


def read_or_none(read, text):
    """What read tells of the text, or None if it's at fault."""
    try:
        return read(text)
    except Fault:
        return None


def sizes_of_lines(lines):
    """How many moments, bars and notes there are, and all lengths together."""
    moments = len([length for length, notes in lines if length > 0])
    note_count = sum([len(notes) for length, notes in lines])
    whole_length = sum([length for length, notes in lines])
    return [moments, len(lines) - moments, note_count, whole_length]


def numbers_of_line(lines, k):
    """What line k of these is, in numbers."""
    if k >= len(lines):
        return [NO_SUCH_LINE]
    length = lines[k][0]
    if length == 0:
        return [0]
    notes = lines[k][1]
    numbers = [length, len(notes)]
    for note in notes:
        numbers.extend(note)
    return numbers


def raised_text(lines, x):
    """The answer that's the text of a song with x upon each note."""
    if not is_interval(x):
        return [BAD_NUMBERS]
    # Raised by one interval the notes stay in their order.
    higher = [(length, [upon(x, note) for note in notes]) for length, notes in lines]
    for length, notes in higher:
        for note in notes:
            if not is_within_bounds(note):
                return [CANNOT_BE]
    return told_text(write_song(higher))


def told_text(text):
    """A text as it's answered: how many bytes, then these."""
    return [len(text)] + text
