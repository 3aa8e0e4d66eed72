"""The calls. A refusal is a number below 0."""

from lutesettings.cursors import Fault
from lutesettings.hands import Hand
from lutesettings.holds import can_be_held, holds_of
from lutesettings.instruments import read_instrument, song_of_piece
from lutesettings.intervals import is_interval, is_within_bounds, upon
from lutesettings.piecetexts import KIND_NAMES, read_piece, write_piece
from lutesettings.placings import count_placings
from lutesettings.settings import Settings, stances_of
from lutesettings.songtexts import read_song, write_song

BAD_NUMBERS = -1
TOO_LONG = -2
CANNOT_BE = -3
NO_SUCH_LINE = -4
NO_FIRST_TEXT = -6
NO_SECOND_TEXT = -8
TOO_MANY_HOLDS = -9

MOST_BYTES = 65536
MOST_INSTRUMENT_BYTES = 4096
WEIGHTS = 9
MOST_WEIGHT = 255
MOST_HOLDS = 1000
MOST_COUNTED = 1000000000


def judge(s):
    """How many lines but the first the song s has, or where its text is at fault."""
    if len(s) > MOST_BYTES:
        return [TOO_LONG]
    try:
        lines = read_song(s)
    except Fault as fault:
        return [NO_FIRST_TEXT, fault.place]
    return [len(lines)]


def sizes(s):
    """How many moments, bars and notes the song s has, and its moments' lengths together."""
    return asked_of_song(s, sizes_of_lines)


def line(k, s):
    """What line k of the song s is: 0 of a bar; of a moment its length, how many notes, and these."""
    return asked_of_song(s, lambda lines: numbers_of_line(lines, k))


def raised(s, x):
    """The text of the song s with x upon each of its notes."""
    return asked_of_song(s, lambda lines: raised_text(lines, x))


def of(i, t):
    """The text of the song that the piece t sounds on the instrument i."""
    if len(t) > MOST_BYTES or len(i) > MOST_INSTRUMENT_BYTES:
        return [TOO_LONG]
    return asked_of_texts(i, read_instrument, t, read_piece, sung_text)


def ways(k, s, i):
    """How many placings moment k of the song s has on the instrument i."""
    return asked_of_song_and_instrument(s, i, lambda lines, courses: ways_of_moment(lines, courses, k))


def best(kind, s, i, w):
    """What the cheapest settings of the song s on the instrument i cost; the first one's piece, in this kind."""
    return asked_of_song_and_instrument(s, i, lambda lines, courses: best_setting(kind, lines, courses, w))


def many(s, i, w):
    """What the cheapest settings of the song s on the instrument i cost, and how many there are."""
    return asked_of_song_and_instrument(s, i, lambda lines, courses: count_of_best(lines, courses, w))


def stuck(s, i):
    """How many moments of the song s at most, from the first on, can be set on the instrument i."""
    return asked_of_song_and_instrument(s, i, lambda lines, courses: [count_that_can_be_set(lines, courses)])


def asked_of_song(s, answer):
    """What answer tells of the lines of the song s, or why there are none."""
    if len(s) > MOST_BYTES:
        return [TOO_LONG]
    lines = read_or_none(read_song, s)
    if lines is None:
        return [NO_FIRST_TEXT]
    return answer(lines)


def asked_of_song_and_instrument(s, i, answer):
    """What answer tells of the lines of the song s and the courses of the instrument i, or why there are none."""
    if len(s) > MOST_BYTES or len(i) > MOST_INSTRUMENT_BYTES:
        return [TOO_LONG]
    return asked_of_texts(s, read_song, i, read_instrument, answer)


def asked_of_texts(first, read_first, second, read_second, answer):
    """What answer tells of what two texts tell, or which of them is at fault."""
    told_first = read_or_none(read_first, first)
    if told_first is None:
        return [NO_FIRST_TEXT]
    told_second = read_or_none(read_second, second)
    if told_second is None:
        return [NO_SECOND_TEXT]
    return answer(told_first, told_second)


def read_or_none(read, text):
    """What read tells of the text, or None if it's at fault."""
    try:
        return read(text)
    except Fault:
        return None


def sizes_of_lines(lines):
    """How many moments, bars and notes there are, and all lengths together."""
    moments = len([length for length, notes in lines if length > 0])
    note_count = sum([len(notes) for length, notes in lines])
    whole_length = sum([length for length, notes in lines])
    return [moments, len(lines) - moments, note_count, whole_length]


def numbers_of_line(lines, k):
    """What line k of these is, in numbers."""
    if k >= len(lines):
        return [NO_SUCH_LINE]
    length = lines[k][0]
    if length == 0:
        return [0]
    notes = lines[k][1]
    numbers = [length, len(notes)]
    for note in notes:
        numbers.extend(note)
    return numbers


def raised_text(lines, x):
    """The answer that's the text of a song with x upon each note."""
    if not is_interval(x):
        return [BAD_NUMBERS]
    # Raised by one interval the notes stay in their order.
    higher = [(length, [upon(x, note) for note in notes]) for length, notes in lines]
    for length, notes in higher:
        for note in notes:
            if not is_within_bounds(note):
                return [CANNOT_BE]
    return told_text(write_song(higher))


def sung_text(courses, lines):
    """The answer that's the text of the song that a piece's lines sound on these courses."""
    song = song_of_piece(courses, lines)
    if song is None:
        return [CANNOT_BE]
    return told_text(write_song(song))


def moments_of(lines):
    """The notes of each moment."""
    return [notes for length, notes in lines if length > 0]


def ways_of_moment(lines, courses, k):
    """The answer that's how many placings moment k has."""
    moments = moments_of(lines)
    if k >= len(moments):
        return [NO_SUCH_LINE]
    return [count_placings(courses, moments[k])]


def best_setting(kind, lines, courses, w):
    """The answer that's the least cost and the text of the first setting's piece."""
    if kind >= len(KIND_NAMES):
        return [BAD_NUMBERS]
    return asked_of_settings(lines, courses, w, lambda settings: told_setting(kind, lines, settings))


def count_of_best(lines, courses, w):
    """The answer that's the least cost and how many settings have it."""
    return asked_of_settings(
        lines, courses, w, lambda settings: [settings.least_cost(), min(settings.how_many(), MOST_COUNTED)])


def asked_of_settings(lines, courses, w, answer):
    """What answer tells of the settings of a song's lines on these courses, or why there are none."""
    if not are_weights(w):
        return [BAD_NUMBERS]
    holds = holds_of_moments(courses, moments_of(lines))
    if max([len(held) for held in holds]) > MOST_HOLDS:
        return [TOO_MANY_HOLDS]
    if [] in holds:
        return [CANNOT_BE]
    return answer(Settings([stances_of(held, w) for held in holds], w))


def are_weights(w):
    """Whether these are nine weights."""
    return len(w) == WEIGHTS and max(w) <= MOST_WEIGHT


def holds_of_moments(courses, moments):
    """The holds of each moment; of moments with the same notes they are looked for only once."""
    hand = Hand()
    known = {}
    for notes in moments:
        key = tuple(notes)
        if key not in known:
            # Whether there's a hold is soon told, but to go through all placings in vain takes long.
            can_be = can_be_held(courses, notes, hand)
            known[key] = holds_of(courses, notes, hand, MOST_HOLDS) if can_be else []
    return [known[tuple(notes)] for notes in moments]


def told_setting(kind, lines, settings):
    """The least cost, and the text of the piece of the first setting that has it."""
    placings = settings.first_placings()
    piece = []
    for length, notes in lines:
        stops = list(placings.pop(0)) if length > 0 else []
        piece.append((length, stops))
    return [settings.least_cost()] + told_text(write_piece(kind, piece))


def count_that_can_be_set(lines, courses):
    """How many moments there are before the first that can't be held."""
    # From any grip a hand can go to any other: moments can be set together if each can be by itself.
    hand = Hand()
    known = {}
    count = 0
    for notes in moments_of(lines):
        key = tuple(notes)
        if key not in known:
            known[key] = can_be_held(courses, notes, hand)
        if not known[key]:
            return count
        count += 1
    return count


def told_text(text):
    """A text as it's answered: how many bytes, then these."""
    return [len(text)] + text
