"""Intervals: tuples a, b, c, e, d of whole numbers; how wide they are, and their texts."""

from lutesettings.cursors import BLANK, Cursor, END, Fault

MINUS = 45
SLASH = 47
ZERO = 48
ONE = 49
NINE = 57
CARET = 94

# The digits 2, 3, 5, 7, each with its place among the powers.
FACTORS = {50: 0, 51: 1, 53: 2, 55: 3}
FACTOR_SIGNS = "2357"

MOST_DIGITS = 4
MOST_POWER = 99
MOST_PARTS = 24

# The natural logarithms of 2, 3, 5, 7 in units of 10^-40, rounded down.
LOGARITHMS = (
    6931471805599453094172321214581765680755,
    10986122886681096913952452369225257046474,
    16094379124341003746007593332261876395256,
    19459101490553133051053527434431797296370,
)

# The least number that each d from 1 to 24 divides.
COMMON_PARTS = 5354228880


def width(interval):
    """A whole number that's the greater, the wider the interval is; different intervals have different ones."""
    # Rounded logarithms still tell exactly which of two intervals is narrower. Their widths differ as a
    # sum of the four logarithms does, each taken at most 2 * 99 * 24 = 4752 times, so rounding moves that
    # sum by less than 4 * 4752 units; but no such sum, unless it's of nothing, comes nearer to 0 than
    # 10^26 units (tests/test_widths.py proves it for all of them).
    powers = interval[:4]
    total = sum([power * logarithm for power, logarithm in zip(powers, LOGARITHMS)])
    return total * (COMMON_PARTS // interval[4])


def is_interval(numbers):
    """Whether a list of whole numbers is an interval."""
    if len(numbers) != 5 or numbers[4] < 1 or not is_within_bounds(numbers):
        return False
    return common_factor_of_all(numbers) == 1


def is_within_bounds(numbers):
    """Whether five numbers without a common factor, the last above 0, are an interval."""
    for power in numbers[:4]:
        if abs(power) > MOST_POWER:
            return False
    return numbers[4] <= MOST_PARTS


def upon(x, y):
    """The five numbers of interval x upon interval y, without a common factor: an interval or not."""
    numbers = [a * y[4] + b * x[4] for a, b in zip(x[:4], y[:4])]
    numbers.append(x[4] * y[4])
    common = common_factor_of_all(numbers)
    return tuple([number // common for number in numbers])


def common_factor_of_all(numbers):
    """The greatest whole number that divides all of these; one of them at least isn't 0."""
    common = 0
    for number in numbers:
        common = common_factor(common, number)
    return common


def common_factor(a, b):
    """The greatest whole number that divides both; of 0 and b it's b."""
    while b != 0:
        rest = a % b
        a = b
        b = rest
    return abs(a)


def interval_text(interval):
    """An interval's text."""
    factors = []
    for digit, power in zip(FACTOR_SIGNS, interval[:4]):
        if power != 0:
            factors.append(digit + power_text(power, interval[4]))
    if not factors:
        return "1"
    return " ".join(factors)


def power_text(power, parts):
    """What stands behind a factor's digit to tell its power of so many parts."""
    common = common_factor(power, parts)
    n = power // common
    d = parts // common
    if d > 1:
        return f"^{n}/{d}"
    if n == 1:
        return ""
    return f"^{n}"


def read_interval(text, start, end):
    """The interval whose text stands from start up to end; Fault with the place in the whole text."""
    cursor = Cursor(text, start, end)
    powers = [(0, 1), (0, 1), (0, 1), (0, 1)]
    if cursor.byte() == ONE:
        cursor.advance()
    else:
        read_factors(cursor, powers)
    if cursor.byte() != END:
        raise Fault(cursor.place)
    interval = with_common_parts(powers)
    if not is_within_bounds(interval):
        raise Fault(end)
    return interval


def read_factors(cursor, powers):
    """Put the powers of the factors that stand here, one or more, into the list powers."""
    before = -1
    more = True
    while more:
        start = cursor.place
        which = read_digit_of_factor(cursor)
        power = read_power(cursor, start)
        if which <= before:
            raise Fault(start)
        powers[which] = power
        before = which
        more = cursor.byte() == BLANK
        if more:
            cursor.advance()


def read_digit_of_factor(cursor):
    """Which of the four factors stands here, from 0."""
    digit = cursor.byte()
    if digit not in FACTORS:
        raise Fault(cursor.place)
    cursor.advance()
    return FACTORS[digit]


def read_power(cursor, start):
    """The power n, d of the factor whose digit stands at start, just read."""
    if cursor.byte() != CARET:
        return (1, 1)
    cursor.advance()
    n = read_signed_number(cursor)
    if cursor.byte() != SLASH:
        if n == 0 or n == 1:
            raise Fault(start)
        return (n, 1)
    cursor.advance()
    d = read_number(cursor)
    if d < 2 or common_factor(n, d) != 1:
        raise Fault(start)
    return (n, d)


def read_signed_number(cursor):
    """The number that stands here, below 0 behind a minus sign."""
    if cursor.byte() != MINUS:
        return read_number(cursor)
    cursor.advance()
    if cursor.byte() == ZERO:
        raise Fault(cursor.place)
    return -read_number(cursor)


def read_number(cursor):
    """The number that stands here, up to the first byte that is no digit."""
    start = cursor.place
    number = 0
    while ZERO <= cursor.byte() <= NINE:
        digits = cursor.place - start
        begun_with_zero = digits > 0 and number == 0
        if begun_with_zero or digits == MOST_DIGITS:
            raise Fault(cursor.place)
        number = number * 10 + cursor.byte() - ZERO
        cursor.advance()
    if cursor.place == start:
        raise Fault(start)
    return number


def with_common_parts(powers):
    """The five numbers of the powers n, d, each in lowest terms, so that the five have no common factor."""
    d = 1
    for power in powers:
        d = d * power[1] // common_factor(d, power[1])
    numbers = [power[0] * (d // power[1]) for power in powers]
    return (numbers[0], numbers[1], numbers[2], numbers[3], d)
