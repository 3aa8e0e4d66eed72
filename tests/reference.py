"""What the document says, written once more in another way, for comparison; and songs drawn by chance.

Slow and plain: texts are split and matched by patterns, and ratios are compared as whole numbers.
"""

import functools
import itertools
import re
from fractions import Fraction
from math import gcd, lcm

LENGTHS = {"x": 1, "t": 2, "s": 4, "e": 8, "q": 16, "h": 32, "w": 64}
LENGTHS.update({sign + ".": units * 3 // 2 for sign, units in list(LENGTHS.items()) if units > 1})
SIGNS = {units: sign for sign, units in LENGTHS.items()}

# The longest an interval's text can be: every power a minus sign, two digits and a d of two digits.
LONGEST = "2^-99/23 3^-98/23 5^-97/23 7^-95/23"

NUMBER = r"(?:0|[1-9][0-9]{0,3})"
FACTOR = rf"[2357](?:\^(?:-[1-9][0-9]{{0,3}}|{NUMBER})(?:/{NUMBER})?)?"
FORM = re.compile(rf"1|{FACTOR}(?: {FACTOR})*")


def as_bytes(text):
    """The list of bytes that the calls take."""
    return list(text.encode("latin-1"))


def is_of_the_form(text):
    return FORM.fullmatch(text) is not None


def can_go_on(text):
    """Whether text begins something of the form: what misses a part misses a number or a digit."""
    return is_of_the_form(text) or is_of_the_form(text + "2")


def stands_whole(factor, following):
    if "^" not in factor:
        return following != "^"
    if following != "" and following in "0123456789":
        return False
    return "/" in factor or following != "/"


def is_rightly_told(factor, before):
    if before >= factor[0]:
        return False
    if "^" not in factor:
        return True
    power = factor[2:]
    if "/" not in power:
        return power not in ("0", "1")
    n, d = map(int, power.split("/"))
    return d > 1 and gcd(n, d) == 1


def interval_of(text):
    """The five numbers of a text without a fault of its form, an interval or not."""
    powers = dict.fromkeys("2357", (0, 1))
    for factor in text.split(" ") if text != "1" else []:
        n, _, d = (factor[2:] or "1").partition("/")
        powers[factor[0]] = (int(n), int(d or 1))
    d = lcm(*[power[1] for power in powers.values()])
    return [n * d // m for n, m in powers.values()] + [d]


def is_interval(numbers):
    return all(-99 <= power <= 99 for power in numbers[:4]) and 1 <= numbers[4] <= 24 and gcd(*numbers) == 1


def interval_fault(text):
    """Where an interval's text is at fault, or None."""
    for place in range(len(text) + 1):
        if is_of_the_form(text[:place]) and text[:place] != "1":
            factors = text[:place].split(" ")
            before = factors[-2][0] if len(factors) > 1 else "0"
            if stands_whole(factors[-1], text[place:place + 1]) and not is_rightly_told(factors[-1], before):
                return place - len(factors[-1])
        if place < len(text) and not can_go_on(text[:place + 1]):
            return place
    if is_of_the_form(text) and is_interval(interval_of(text)):
        return None
    return len(text)


def compared(x, y):
    """Below 0 if interval x is narrower than y, above 0 if it's wider, 0 if it's the same."""
    less = greater = 1
    for prime, a, b in zip((2, 3, 5, 7), x, y):
        power = a * y[4] - b * x[4]
        if power > 0:
            greater *= prime ** power
        else:
            less *= prime ** -power
    return (greater > less) - (greater < less)


def notes_fault(text):
    """Where the notes of a line are at fault, or None."""
    if text.startswith("."):
        return None if text == "." else 1
    place = 0
    before = None
    for number, part in enumerate(text.split(",")):
        if number > 0:
            if not part.startswith(" "):
                return place
            part = part[1:]
            place += 1
        if number == 14:
            return place
        fault = interval_fault(part)
        if fault is not None:
            return place + fault
        note = interval_of(part)
        if before is not None and compared(note, before) < 0:
            return place
        before = note
        place += len(part) + 1
    return None


def row_fault(row, before):
    """Where a line without its end is at fault, or None; before is the length of the moment before it."""
    if row.startswith("|"):
        return None if row == "|" else 1
    sign = re.match(r"(?:[tseqhw]\.?|x)?", row)[0]
    if row[len(sign):len(sign) + 1] != " ":
        return len(sign)
    if LENGTHS.get(sign, before) in (None, before if sign else None):
        return 0
    fault = notes_fault(row[len(sign) + 1:])
    return None if fault is None else len(sign) + 1 + fault


def song_fault(text):
    """Where a song's text is at fault, or None."""
    for place, sign in enumerate("song\n"):
        if text[place:place + 1] != sign:
            return place
    place = 5
    before = None
    rows = re.findall(r"[^\n]*\n|[^\n]+$", text[5:])
    for number, row in enumerate(rows):
        body = row.removesuffix("\n")
        if number == 512:
            return place
        fault = row_fault(body, before)
        if fault is not None:
            return place + fault
        if row == body:
            return len(text)
        if body != "|":
            before = LENGTHS.get(body.partition(" ")[0], before)
        place += len(row)
    return len(text) if before is None else None


def interval_text(numbers):
    """The text of an interval."""
    factors = []
    for digit, power in zip("2357", numbers):
        common = gcd(power, numbers[4])
        n, d = power // common, numbers[4] // common
        if n != 0:
            told = f"{n}/{d}" if d > 1 else str(n)
            factors.append(digit if told == "1" else digit + "^" + told)
    return " ".join(factors) or "1"


def text_of(first, lines, content_text):
    """A text of lines, None or a length and its content, behind a first one."""
    rows = [first]
    before = None
    for line in lines:
        if line is None:
            rows.append("|")
            continue
        length, content = line
        rows.append((SIGNS[length] if length != before else "") + " " + content_text(content))
        before = length
    return "\n".join(rows) + "\n"


def song_text(lines):
    """The text of a song: lines are None, a bar, or a length and its notes in order."""
    return text_of("song", lines, lambda notes: ", ".join(map(interval_text, notes)) or ".")


def song_lines(text):
    """The lines of a text that is a song's: None, a bar, or a length and its notes."""
    lines = []
    length = None
    for row in text.split("\n")[1:-1]:
        if row == "|":
            lines.append(None)
            continue
        sign, _, notes = row.partition(" ")
        length = LENGTHS.get(sign, length)
        lines.append((length, [] if notes == "." else [interval_of(note) for note in notes.split(", ")]))
    return lines


def sum_of(x, y):
    """The five numbers of x upon y, an interval or not."""
    powers = [Fraction(a, x[4]) + Fraction(b, y[4]) for a, b in zip(x[:4], y[:4])]
    d = lcm(*[power.denominator for power in powers])
    return [int(power * d) for power in powers] + [d]


def opposite(x):
    return [-power for power in x[:4]] + [x[4]]


def raised_answer(text, x):
    """What raised answers of a text that is a song's."""
    if len(x) != 5 or not is_interval(x):
        return [-1]
    lines = [line and (line[0], [sum_of(x, note) for note in line[1]]) for line in song_lines(text)]
    if not all(is_interval(note) for line in lines if line for note in line[1]):
        return [-3]
    told = song_text(lines)
    return [len(told)] + as_bytes(told)


def line_answer(text, k):
    """What line answers of a text that is a song's."""
    lines = song_lines(text)
    if k >= len(lines):
        return [-4]
    if lines[k] is None:
        return [0]
    length, notes = lines[k]
    return [length, len(notes)] + sum(notes, [])


def chance_power(chance):
    kind = chance.randrange(4)
    if kind == 0:
        return 0
    return chance.randint(-3, 3) if kind < 3 else chance.randint(-99, 99)


def chance_interval(chance):
    while True:
        numbers = [chance_power(chance) for _ in range(4)] + [chance.choice((1, 1, 1, 2, 3, 4, 12, 23, 24))]
        if is_interval(numbers):
            return numbers


def chance_song(chance):
    lines = []
    for _ in range(chance.randint(0, 6)):
        notes = [chance_interval(chance) for _ in range(chance.choice((0, 1, 2, 3, 4, 14)))]
        notes += notes[:chance.randint(0, 1)] if len(notes) < 14 else []
        length = chance.choice(list(LENGTHS.values()))
        lines.append(chance.choice((None, (length, sorted(notes, key=functools.cmp_to_key(compared))))))
    lines.append((16, [[0, 0, 0, 0, 1]]))
    chance.shuffle(lines)
    return lines


def of_bytes(count):
    """A song's text of just so many bytes."""
    text = "song\nq .\n"
    while count - len(text) > 600:
        text += " " + ", ".join([LONGEST] * 14) + "\n"
    if (count - len(text)) % 2 == 1:
        text += " .\n"
    return text + "|\n" * ((count - len(text)) // 2)


def changed(text, chance, signs):
    """The text with something put in, left out, put in another's place, told again, or with its end cut off."""
    place = chance.randrange(len(text) + 1)
    kind = chance.randrange(7)
    if kind == 0:
        return text[:place] + chance.choice(signs) + text[place:]
    if kind == 1:
        return text[:place] + text[place + 1:]
    if kind == 2:
        return text[:place] + chance.choice(signs) + text[place + 1:]
    if kind == 3:
        return text[:place]
    if kind == 4:
        return text[:place + chance.randint(1, 12)] + text[place:]
    rows = text.split("\n")
    row = chance.randrange(len(rows))
    again = [chance.choice(rows)] if kind == 5 else []
    return "\n".join(rows[:row] + again + rows[row + (kind == 6):])


# Instruments, and what is played on them.

INSTRUMENT = re.compile(
    r"length ([1-9][0-9]{0,6})\n((?:fret [^\n]*\n)*)((?:course [^\n]*\n)+)((?:bass [^\n]*\n)*)")
KINDS = ("french", "italian", "german")
FRENCH_FRETS = "abcdefghiklmnopq"
ITALIAN_FRETS = "0123456789xyzvuw"
FRENCH_BASSES = {"a": 7, "/a": 8, "//a": 9, "///a": 10, "4": 11, "5": 12, "6": 13, "7": 14}
ITALIAN_BASSES = {str(course): course for course in range(7, 15)}
# The German crossings of the frets 1 to 5, each for the courses 5, 4, 3, 2, 1.
CROSSINGS = ("abcde", "fghik", "lmnop", "qrstv", "xyz&9")
GERMAN = {f"-{course}": (course, 0) for course in range(7, 15)}
GERMAN.update({sign: (6, fret) for fret, sign in enumerate("+ABCDEFGHIKLMNOP")})
GERMAN.update({sign: (course, 0) for course, sign in zip((1, 2, 3, 4, 5), "54321")})
GERMAN.update({CROSSINGS[row][5 - course] * times: (course, 5 * (times - 1) + row + 1)
               for row in range(5) for course in range(1, 6) for times in (1, 2, 3)})
GERMAN_SIGNS = {stop: sign for sign, stop in GERMAN.items()}


def instrument_text(frets, courses, basses, length=60000):
    """The text of an instrument whose intervals are texts."""
    rows = [f"length {length}"]
    rows += ["fret " + fret for fret in frets]
    rows += ["course " + course for course in courses]
    rows += ["bass " + bass for bass in basses]
    return "\n".join(rows) + "\n"


def step(number, parts=12):
    """The text of so many parts of an octave."""
    return interval_text(sum_of([number, 0, 0, 0, parts], [0, 0, 0, 0, 1]))


def steps(*numbers):
    return [step(number) for number in numbers]


def strings(*numbers, basses=(), frets=15):
    """An instrument with these open strings, in twelfths of an octave, and a fret at each."""
    return instrument_text(steps(*range(1, frets + 1)), steps(*numbers), steps(*basses))


def song_of_steps(*moments):
    """A song of moments, each told by its notes in twelfths of an octave."""
    return "song\nq " + "\n ".join(", ".join(steps(*sorted(notes))) or "." for notes in moments) + "\n"


@functools.lru_cache(maxsize=8)
def places_of(text):
    """What each stop sounds that can be on an instrument, {(course, fret): numbers}; None if the text is none."""
    form = INSTRUMENT.fullmatch(text)
    if form is None or not 10000 <= int(form[1]) <= 200000:
        return None
    told = [[row.partition(" ")[2] for row in part.split("\n")[:-1]] for part in form.groups()[1:]]
    if any(interval_fault(note) is not None for part in told for note in part):
        return None
    frets, courses, basses = [[interval_of(note) for note in part] for part in told]
    if len(frets) > 15 or len(courses) + len(basses) > 14:
        return None
    rising = [[0, 0, 0, 0, 1]] + frets
    if any(compared(fret, before) <= 0 for before, fret in zip(rising, frets)):
        return None
    sounds = {(c, f): sum_of(course, fret) for c, course in enumerate(courses, 1) for f, fret in enumerate(rising)}
    if not all(is_interval(sound) for sound in sounds.values()):
        return None
    sounds.update({(c, 0): bass for c, bass in enumerate(basses, len(courses) + 1)})
    return {stop: sound for stop, sound in sounds.items() if stop[0] <= 6 or stop[1] == 0}


def french_stops(told):
    form = re.fullmatch(r"([a-ik-q.]{6})((?: (?:/{0,3}a|[4-7]))*)", told)
    if form is None:
        return None
    stops = [(c, FRENCH_FRETS.index(sign)) for c, sign in enumerate(form[1], 1) if sign != "."]
    return stops + [(FRENCH_BASSES[sign], 0) for sign in form[2].split(" ")[1:]]


def italian_stops(told):
    form = re.fullmatch(r"([0-9xyzvuw.]{6})((?: (?:[789]|1[0-4]))*)", told)
    if form is None:
        return None
    stops = [(c, ITALIAN_FRETS.index(sign)) for c, sign in enumerate(reversed(form[1]), 1) if sign != "."]
    return stops + [(ITALIAN_BASSES[sign], 0) for sign in form[2].split(" ")[1:]]


def german_stops(told):
    if told == ".":
        return []
    if any(sign not in GERMAN for sign in told.split(" ")):
        return None
    return [GERMAN[sign] for sign in told.split(" ")]


def piece_lines(text):
    """The lines of a piece's text: None, a bar, or a length and its stops; None of a text that is none."""
    first, *rows, last = text.split("\n") if "\n" in text else ("", "")
    if first not in KINDS or last != "" or len(rows) > 512 or not [row for row in rows if row != "|"]:
        return None
    read = (french_stops, italian_stops, german_stops)[KINDS.index(first)]
    lines = []
    before = None
    for row in rows:
        if row == "|":
            lines.append(None)
            continue
        sign, blank, told = row.partition(" ")
        if not blank or sign not in LENGTHS and sign != "" or LENGTHS.get(sign) == before:
            return None
        before = LENGTHS.get(sign, before)
        stops = read(told)
        if stops is None or [stop[0] for stop in stops] != sorted({stop[0] for stop in stops}):
            return None
        lines.append((before, stops))
    return lines


def stops_text(kind, stops):
    """A moment's stops in a text of this kind."""
    if kind == 2:
        return " ".join(GERMAN_SIGNS[stop] for stop in stops) or "."
    frets = FRENCH_FRETS if kind == 0 else ITALIAN_FRETS
    basses = FRENCH_BASSES if kind == 0 else ITALIAN_BASSES
    upper = ["."] * 6
    for course, fret in stops:
        if course <= 6:
            upper[course - 1] = frets[fret]
    if kind == 1:
        upper.reverse()
    lower = [sign for sign, course in basses.items() if (course, 0) in stops]
    return " ".join(["".join(upper)] + lower)


def piece_text(kind, lines):
    """The text of a piece in this kind."""
    return text_of(KINDS[kind], lines, lambda stops: stops_text(kind, stops))


def in_order(notes):
    return sorted(notes, key=functools.cmp_to_key(compared))


def song_of(places, lines):
    """The text of the song that a piece sounds; None if it doesn't fit."""
    moments = [line for line in lines if line is not None]
    if any(stop not in places for _, stops in moments for stop in stops):
        return None
    return song_text([line and (line[0], in_order([places[stop] for stop in line[1]])) for line in lines])


def of_answer(instrument, piece):
    """What of answers of texts that aren't too long."""
    places = places_of(instrument)
    if places is None:
        return [-6]
    lines = piece_lines(piece)
    if lines is None:
        return [-8]
    song = song_of(places, lines)
    return [-3] if song is None else [len(song)] + as_bytes(song)


def placings_of(places, notes):
    """The placings of a moment's notes, in their order: a note after another to any course that's free."""
    found = {()}
    for note in notes:
        here = [stop for stop, sound in places.items() if sound == note]
        found = {tuple(sorted(stops + (stop,))) for stops in found for stop in here
                 if stop[0] not in [other[0] for other in stops]}
    return sorted(found, key=lambda stops: [dict(stops).get(course, 99) for course in range(1, 15)])


def chance_instrument(chance, most_frets=15, most_courses=14):
    """An instrument's text; its strings lie near one another, so that notes are had in several places."""
    d = chance.choice((1, 2, 5, 12, 12, 12, 24))
    steps = sorted(chance.sample(range(1, 19), chance.randint(0, most_frets)))
    if chance.random() < 0.5:
        steps = list(range(1, len(steps) + 1))
    count = chance.randint(1, most_courses)
    courses = chance.choice((count, chance.randint(1, count)))
    strings = [chance.randint(-9, 9) for _ in range(count)]
    if chance.random() < 0.3:
        strings = [strings[0]] * count
    told = {step: interval_text(sum_of([step, 0, 0, 0, d], [0, 0, 0, 0, 1])) for step in steps + strings}
    return instrument_text([told[step] for step in steps], [told[string] for string in strings[:courses]],
                           [told[string] for string in strings[courses:]])


def chance_stops(chance, places):
    """Some places on different courses."""
    courses = sorted({course for course, _ in places})
    taken = sorted(chance.sample(courses, chance.randint(0, len(courses))))
    return [(course, chance.choice([f for c, f in places if c == course])) for course in taken]


def chance_piece(chance, places, moments=6):
    """The lines of a piece that fits."""
    lines = []
    for _ in range(chance.randint(0, moments - 1)):
        length = chance.choice(list(LENGTHS.values()))
        lines.append(chance.choice((None, (length, chance_stops(chance, places)), (16, chance_stops(chance, places)))))
    lines.append((16, chance_stops(chance, places)))
    chance.shuffle(lines)
    return lines


# Hands and settings.

def is_grip(held, position, fingers):
    """Whether these fingers at this position are a grip of the held stops."""
    told = list(zip(held, fingers))
    for (_, fret), finger in told:
        if not position + finger - 2 <= fret <= position + finger:
            return False
    for (stop, f), (other, g) in itertools.combinations(told, 2):
        if f == g and (f != 1 or stop[1] != other[1]):
            return False
    for (stop, f), (other, g) in itertools.permutations(told, 2):
        if f < g and (stop[1] > other[1] or stop[1] == other[1] and stop[0] < other[0]):
            return False
    return True


@functools.lru_cache(maxsize=100000)
def grips_of(held):
    """The grips of held stops in their order: position and fingers."""
    return [(position, fingers) for position in range(1, 16)
            for fingers in itertools.product((1, 2, 3, 4), repeat=len(held)) if is_grip(held, position, fingers)]


def held_of(placing):
    return tuple(stop for stop in placing if stop[1] > 0)


def holds_of(places, notes):
    """The holds of a moment in their order: placing, position and fingers."""
    return [(placing,) + grip for placing in placings_of(places, notes) for grip in grips_of(held_of(placing))]


def stopped_by(hold, finger):
    return {stop for stop, given in zip(held_of(hold[0]), hold[2]) if given == finger}


def hold_cost(hold, weights):
    """What a hold's grip costs."""
    cost = 0
    for finger in (1, 2, 3, 4):
        stops = stopped_by(hold, finger)
        if stops:
            (fret,) = {stop[1] for stop in stops}
            cost += weights[finger] + weights[5] * abs(fret - (hold[1] + finger - 1))
            cost += weights[6] * (len(stops) > 1)
    return cost


def going_cost(hold, after, weights):
    """What it costs to go from a hold to the one after it."""
    cost = weights[0] * abs(hold[1] - after[1])
    for finger in (1, 2, 3, 4):
        first, second = stopped_by(hold, finger), stopped_by(after, finger)
        cost += weights[7] * bool(first and second and not first & second)
    return cost


def setting_cost(setting, weights):
    """What a setting, a row of holds, costs."""
    return (sum(hold_cost(hold, weights) for hold in setting)
            + sum(going_cost(hold, after, weights) for hold, after in zip(setting, setting[1:]))
            + weights[8] * (setting[0][1] - 1))


def settings_found(holds, weights):
    """The least cost, how many settings have it, and the first of these, by a search through all settings."""
    least = count = first = None
    for setting in itertools.product(*holds):
        cost = setting_cost(setting, weights)
        if least is None or cost < least:
            least, count, first = cost, 0, setting
        count += cost == least
    return least, count, first


def best_answers(song, instrument, weights, search=settings_found):
    """What best answers in the three kinds and what many answers, of right texts and weights."""
    places = places_of(instrument)
    lines = song_lines(song)
    holds = [holds_of(places, line[1]) for line in lines if line is not None]
    if max(map(len, holds)) > 1000:
        return [[-9]] * 3, [-9]
    if not all(holds):
        return [[-3]] * 3, [-3]
    least, count, first = search(holds, weights)
    rest = iter(first)
    piece = [line and (line[0], list(next(rest)[0])) for line in lines]
    texts = [piece_text(kind, piece) for kind in range(3)]
    return [[least, len(text)] + as_bytes(text) for text in texts], [least, min(count, 10 ** 9)]


def settings_by_pairs(holds, weights):
    """As settings_found, but moment by moment, from the last hold back: for more holds."""
    costs = [hold_cost(hold, weights) for hold in holds[-1]]
    counts = [1] * len(holds[-1])
    rests = [(holds[-1], costs)]
    for moment in reversed(holds[:-1]):
        after, behind, ways = holds[len(holds) - len(rests)], costs, counts
        goings = [[going_cost(hold, other, weights) + rest for other, rest in zip(after, behind)] for hold in moment]
        leasts = [min(row) for row in goings]
        counts = [sum(way for way, cost in zip(ways, row) if cost == least) for least, row in zip(leasts, goings)]
        costs = [hold_cost(hold, weights) + least for hold, least in zip(moment, leasts)]
        rests.insert(0, (moment, costs))
    firsts = [cost + weights[8] * (hold[1] - 1) for hold, cost in zip(holds[0], costs)]
    setting = [holds[0][firsts.index(min(firsts))]]
    for moment, costs in rests[1:]:
        goings = [going_cost(setting[-1], hold, weights) + cost for hold, cost in zip(moment, costs)]
        setting.append(moment[goings.index(min(goings))])
    return min(firsts), sum(way for way, cost in zip(counts, firsts) if cost == min(firsts)), tuple(setting)


def stuck_at(places, song):
    """How many moments from the first on have a hold."""
    count = 0
    for line in song_lines(song):
        if line is not None:
            if not any(grips_of(held_of(placing)) for placing in placings_of(places, line[1])):
                return count
            count += 1
    return count
