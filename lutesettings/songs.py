"""The calls. A refusal is a number below 0."""

from lutesettings.cursors import Fault
from lutesettings.songtexts import read_song

TOO_LONG = -2
NO_SONG = -6

MOST_BYTES = 65536


def judge(s):
    """How many lines but the first the song s has, or where its text is at fault."""
    if len(s) > MOST_BYTES:
        return [TOO_LONG]
    try:
        lines = read_song(s)
    except Fault as fault:
        return [NO_SONG, fault.place]
    return [len(lines)]


def sizes(s):
    """How many moments, bars and notes the song s has, and its moments' lengths together."""
    if len(s) > MOST_BYTES:
        return [TOO_LONG]
    try:
        lines = read_song(s)
    except Fault:
        return [NO_SONG]
    moments = len([length for length, notes in lines if length > 0])
    note_count = sum([len(notes) for length, notes in lines])
    whole_length = sum([length for length, notes in lines])
    return [moments, len(lines) - moments, note_count, whole_length]
