"""What the document says, written once more in another way, for comparison; and songs drawn by chance.

Slow and plain: texts are split and matched by patterns, and ratios are compared as whole numbers.
"""

import functools
import re
from fractions import Fraction
from math import gcd, lcm

LENGTHS = {"x": 1, "t": 2, "s": 4, "e": 8, "q": 16, "h": 32, "w": 64}
LENGTHS.update({sign + ".": units * 3 // 2 for sign, units in list(LENGTHS.items()) if units > 1})
SIGNS = {units: sign for sign, units in LENGTHS.items()}

# The longest an interval's text can be: every power a minus sign, two digits and a d of two digits.
LONGEST = "2^-99/23 3^-98/23 5^-97/23 7^-95/23"

NUMBER = r"(?:0|[1-9][0-9]{0,3})"
FACTOR = rf"[2357](?:\^(?:-[1-9][0-9]{{0,3}}|{NUMBER})(?:/{NUMBER})?)?"
FORM = re.compile(rf"1|{FACTOR}(?: {FACTOR})*")


def as_bytes(text):
    """The list of bytes that the calls take."""
    return list(text.encode("latin-1"))


def is_of_the_form(text):
    return FORM.fullmatch(text) is not None


def can_go_on(text):
    """Whether text begins something of the form: what misses a part misses a number or a digit."""
    return is_of_the_form(text) or is_of_the_form(text + "2")


def stands_whole(factor, following):
    if "^" not in factor:
        return following != "^"
    if following != "" and following in "0123456789":
        return False
    return "/" in factor or following != "/"


def is_rightly_told(factor, before):
    if before >= factor[0]:
        return False
    if "^" not in factor:
        return True
    power = factor[2:]
    if "/" not in power:
        return power not in ("0", "1")
    n, d = map(int, power.split("/"))
    return d > 1 and gcd(n, d) == 1


def interval_of(text):
    """The five numbers of a text without a fault of its form, an interval or not."""
    powers = dict.fromkeys("2357", (0, 1))
    for factor in text.split(" ") if text != "1" else []:
        n, _, d = (factor[2:] or "1").partition("/")
        powers[factor[0]] = (int(n), int(d or 1))
    d = lcm(*[power[1] for power in powers.values()])
    return [n * d // m for n, m in powers.values()] + [d]


def is_interval(numbers):
    return all(-99 <= power <= 99 for power in numbers[:4]) and 1 <= numbers[4] <= 24 and gcd(*numbers) == 1


def interval_fault(text):
    """Where an interval's text is at fault, or None."""
    for place in range(len(text) + 1):
        if is_of_the_form(text[:place]) and text[:place] != "1":
            factors = text[:place].split(" ")
            before = factors[-2][0] if len(factors) > 1 else "0"
            if stands_whole(factors[-1], text[place:place + 1]) and not is_rightly_told(factors[-1], before):
                return place - len(factors[-1])
        if place < len(text) and not can_go_on(text[:place + 1]):
            return place
    if is_of_the_form(text) and is_interval(interval_of(text)):
        return None
    return len(text)


def compared(x, y):
    """Below 0 if interval x is narrower than y, above 0 if it's wider, 0 if it's the same."""
    less = greater = 1
    for prime, a, b in zip((2, 3, 5, 7), x, y):
        power = a * y[4] - b * x[4]
        if power > 0:
            greater *= prime ** power
        else:
            less *= prime ** -power
    return (greater > less) - (greater < less)


def notes_fault(text):
    """Where the notes of a line are at fault, or None."""
    if text.startswith("."):
        return None if text == "." else 1
    place = 0
    before = None
    for number, part in enumerate(text.split(",")):
        if number > 0:
            if not part.startswith(" "):
                return place
            part = part[1:]
            place += 1
        if number == 14:
            return place
        fault = interval_fault(part)
        if fault is not None:
            return place + fault
        note = interval_of(part)
        if before is not None and compared(note, before) < 0:
            return place
        before = note
        place += len(part) + 1
    return None


def row_fault(row, before):
    """Where a line without its end is at fault, or None; before is the length of the moment before it."""
    if row.startswith("|"):
        return None if row == "|" else 1
    sign = re.match(r"(?:[tseqhw]\.?|x)?", row)[0]
    if row[len(sign):len(sign) + 1] != " ":
        return len(sign)
    if LENGTHS.get(sign, before) in (None, before if sign else None):
        return 0
    fault = notes_fault(row[len(sign) + 1:])
    return None if fault is None else len(sign) + 1 + fault


def song_fault(text):
    """Where a song's text is at fault, or None."""
    for place, sign in enumerate("song\n"):
        if text[place:place + 1] != sign:
            return place
    place = 5
    before = None
    rows = re.findall(r"[^\n]*\n|[^\n]+$", text[5:])
    for number, row in enumerate(rows):
        body = row.removesuffix("\n")
        if number == 512:
            return place
        fault = row_fault(body, before)
        if fault is not None:
            return place + fault
        if row == body:
            return len(text)
        if body != "|":
            before = LENGTHS.get(body.partition(" ")[0], before)
        place += len(row)
    return len(text) if before is None else None


def interval_text(numbers):
    """The text of an interval."""
    factors = []
    for digit, power in zip("2357", numbers):
        common = gcd(power, numbers[4])
        n, d = power // common, numbers[4] // common
        if n != 0:
            told = f"{n}/{d}" if d > 1 else str(n)
            factors.append(digit if told == "1" else digit + "^" + told)
    return " ".join(factors) or "1"


def song_text(lines):
    """The text of a song: lines are None, a bar, or a length and its notes in order."""
    rows = ["song"]
    before = None
    for line in lines:
        if line is None:
            rows.append("|")
            continue
        length, notes = line
        sign = SIGNS[length] if length != before else ""
        rows.append(sign + " " + (", ".join(map(interval_text, notes)) or "."))
        before = length
    return "\n".join(rows) + "\n"


def song_lines(text):
    """The lines of a text that is a song's: None, a bar, or a length and its notes."""
    lines = []
    length = None
    for row in text.split("\n")[1:-1]:
        if row == "|":
            lines.append(None)
            continue
        sign, _, notes = row.partition(" ")
        length = LENGTHS.get(sign, length)
        lines.append((length, [] if notes == "." else [interval_of(note) for note in notes.split(", ")]))
    return lines


def sum_of(x, y):
    """The five numbers of x upon y, an interval or not."""
    powers = [Fraction(a, x[4]) + Fraction(b, y[4]) for a, b in zip(x[:4], y[:4])]
    d = lcm(*[power.denominator for power in powers])
    return [int(power * d) for power in powers] + [d]


def opposite(x):
    return [-power for power in x[:4]] + [x[4]]


def raised_answer(text, x):
    """What raised answers of a text that is a song's."""
    if len(x) != 5 or not is_interval(x):
        return [-1]
    lines = [line and (line[0], [sum_of(x, note) for note in line[1]]) for line in song_lines(text)]
    if not all(is_interval(note) for line in lines if line for note in line[1]):
        return [-3]
    told = song_text(lines)
    return [len(told)] + as_bytes(told)


def line_answer(text, k):
    """What line answers of a text that is a song's."""
    lines = song_lines(text)
    if k >= len(lines):
        return [-4]
    if lines[k] is None:
        return [0]
    length, notes = lines[k]
    return [length, len(notes)] + sum(notes, [])


def chance_power(chance):
    kind = chance.randrange(4)
    if kind == 0:
        return 0
    return chance.randint(-3, 3) if kind < 3 else chance.randint(-99, 99)


def chance_interval(chance):
    while True:
        numbers = [chance_power(chance) for _ in range(4)] + [chance.choice((1, 1, 1, 2, 3, 4, 12, 23, 24))]
        if is_interval(numbers):
            return numbers


def chance_song(chance):
    lines = []
    for _ in range(chance.randint(0, 6)):
        notes = [chance_interval(chance) for _ in range(chance.choice((0, 1, 2, 3, 4, 14)))]
        notes += notes[:chance.randint(0, 1)] if len(notes) < 14 else []
        length = chance.choice(list(LENGTHS.values()))
        lines.append(chance.choice((None, (length, sorted(notes, key=functools.cmp_to_key(compared))))))
    lines.append((16, [[0, 0, 0, 0, 1]]))
    chance.shuffle(lines)
    return lines


def of_bytes(count):
    """A song's text of just so many bytes."""
    text = "song\nq .\n"
    while count - len(text) > 600:
        text += " " + ", ".join([LONGEST] * 14) + "\n"
    if (count - len(text)) % 2 == 1:
        text += " .\n"
    return text + "|\n" * ((count - len(text)) // 2)
