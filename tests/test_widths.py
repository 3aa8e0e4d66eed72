"""Which of two intervals is narrower: exact for all of them."""

import random
import unittest
from decimal import Decimal, localcontext
from fractions import Fraction
from math import gcd

from lutesettings.intervals import COMMON_PARTS, LOGARITHMS, width
from lutesettings.songs import judge
from reference import as_bytes, compared, interval_fault, interval_of, interval_text

# The widest a sum of logarithms in the difference of two widths reaches: 99 * 24 of each, less -99 * 24.
MOST_TIMES = 2 * 99 * 24

# Narrower and wider, with logarithms that differ by 10^-13 and less: the first pair by less than 10^-15.
NEAR = (
    ("2^-72/23 3^98/23 7^-10/23", "2^7/24 3^3/8 5^1/4 7^1/3"),
    ("2^-7/24 3^-3/8 5^-1/4 7^-1/3", "2^72/23 3^-98/23 7^10/23"),
    ("2^80/23 3^97/23 5^88/23 7^-99/23", "2^-31/24 3^1/6 5^1/6 7^65/24"),
    ("2^31/24 3^-1/6 5^-1/6 7^-65/24", "2^-80/23 3^-97/23 5^-88/23 7^99/23"),
    ("2^-5/4 3^-59/24 5^41/24 7^-1/4", "2^88/23 3^90/23 5^-95/23 7^-19/23"),
    ("2^11/3 3^-4 5^-13/12 7^59/24", "2^-4 3^98/23 5^84/23 7^-78/23"),
    ("2^3/8 3^-3/8 5^-4/3 7^9/8", "2^-89/23 3^4 5^84/23 7^-91/23"),
    ("2^97/23 3^80/23 5^-42/23 7^-64/23", "2^-11/8 3^-1/12 5^-1/4 7^-1/12"),
)


def dot(u, v):
    return sum(x * y for x, y in zip(u, v))


def made_upright(basis):
    """Each vector less what of it lies along those before it, and how much that was."""
    upright = []
    shares = []
    for vector in basis:
        rest = [Fraction(x) for x in vector]
        row = []
        for before in upright:
            share = dot(vector, before) / dot(before, before)
            row.append(share)
            rest = [x - share * y for x, y in zip(rest, before)]
        upright.append(rest)
        shares.append(row)
    return upright, shares


def reduced(basis):
    """Another basis of the same lattice, of short vectors (by Lenstra, Lenstra and Lovasz)."""
    basis = [list(vector) for vector in basis]
    k = 1
    while k < len(basis):
        for j in reversed(range(k)):
            times = round(made_upright(basis)[1][k][j])
            basis[k] = [x - times * y for x, y in zip(basis[k], basis[j])]
        upright, shares = made_upright(basis)
        least = (Fraction(99, 100) - shares[k][k - 1] ** 2) * dot(upright[k - 1], upright[k - 1])
        if dot(upright[k], upright[k]) >= least:
            k += 1
        else:
            basis[k - 1], basis[k] = basis[k], basis[k - 1]
            k = max(k - 1, 1)
    return basis


class Exactness(unittest.TestCase):
    def test_logarithms_are_rounded_down(self):
        with localcontext() as context:
            context.prec = 80
            for prime, logarithm in zip((2, 3, 5, 7), LOGARITHMS):
                rest = Decimal(prime).ln() * 10 ** 40 - logarithm
                self.assertTrue(Decimal("0.001") < rest < Decimal("0.999"))

    def test_no_sum_of_logarithms_is_near_nothing(self):
        # A vector stands for each way to take the logarithms: how often those of 3, 5, 7, made longer by
        # scale, and the sum. No vector of a lattice is shorter than the shortest of a basis made upright.
        # Were a sum below 10^26, its vector would be shorter than that: so there's none but that of nothing.
        scale = 10 ** 23
        basis = [[0, 0, 0, LOGARITHMS[0]], [scale, 0, 0, LOGARITHMS[1]],
                 [0, scale, 0, LOGARITHMS[2]], [0, 0, scale, LOGARITHMS[3]]]
        shortest = min(dot(vector, vector) for vector in made_upright(reduced(basis))[0])
        self.assertLess(3 * (scale * MOST_TIMES) ** 2 + (10 ** 26) ** 2, shortest)
        self.assertLess(4 * MOST_TIMES, 10 ** 26)

    def test_each_d_has_its_common_parts(self):
        for d in range(1, 25):
            self.assertEqual(COMMON_PARTS % d, 0)


class Order(unittest.TestCase):
    def check(self, narrower, wider):
        self.assertLess(compared(interval_of(narrower), interval_of(wider)), 0)
        self.assertEqual(judge(as_bytes(f"song\nq {narrower}, {wider}\n")), [1])
        self.assertEqual(judge(as_bytes(f"song\nq {wider}, {narrower}\n")), [-6, 9 + len(wider)])
        self.assertEqual(judge(as_bytes(f"song\nq {wider}, {wider}\n")), [1])

    def test_very_near(self):
        for narrower, wider in NEAR:
            self.assertIsNone(interval_fault(narrower))
            self.assertIsNone(interval_fault(wider))
            self.check(narrower, wider)

    def test_commas(self):
        self.check("2^7/12", "2^-1 3")
        self.check("2^-2 5", "2^1/3")
        self.check("1", "2^-19 3^12")
        self.check("1", "2^-15 3^8 5")
        self.check("1", "2^-5 3^2 5^2 7^-1")
        self.check("1", "2^-5 3^-1 5^-2 7^4")
        self.check("1", "2^-1 3^-7 5^4 7")
        self.check("2^19/12", "3")

    def test_any_two(self):
        chance = random.Random(29)
        for _ in range(3000):
            x, y = chance_interval(chance), chance_interval(chance)
            order = (width(x) > width(y)) - (width(x) < width(y))
            self.assertEqual(order, compared(x, y), (x, y))

    def test_any_two_nearly_the_same(self):
        chance = random.Random(30)
        for _ in range(500):
            x, y = chance_interval(chance), chance_interval(chance)
            # The power of 2 that brings y near to x, whatever y's other powers are.
            other = [0] + y[1:]
            difference = Decimal(width(x) - width(other)) / COMMON_PARTS / LOGARITHMS[0]
            y = [int(difference * y[4])] + y[1:]
            if abs(y[0]) <= 99 and gcd(*y) == 1:
                order = (width(x) > width(y)) - (width(x) < width(y))
                self.assertEqual(order, compared(x, y), (x, y))


def chance_interval(chance):
    while True:
        numbers = [chance.randint(-99, 99) for _ in range(4)] + [chance.randint(1, 24)]
        if gcd(*numbers) == 1:
            return numbers


class Texts(unittest.TestCase):
    def test_the_same_interval_has_one_width(self):
        chance = random.Random(31)
        for _ in range(300):
            text = interval_text(chance_interval(chance))
            self.assertEqual(judge(as_bytes(f"song\nq {text}, {text}\n")), [1], text)


if __name__ == "__main__":
    unittest.main()
