"""Common divisors of whole numbers of any length."""

import random
import unittest
from fractions import Fraction
from math import gcd

from tickdesign.whole import common_divisor, common_multiple, divisor_of_all, told_quotients, without_content


class Divisors(unittest.TestCase):
    def test_small(self):
        for first in range(-20, 21):
            for second in range(-20, 21):
                self.assertEqual(common_divisor(first, second), gcd(first, second))

    def test_of_each_length(self):
        source = random.Random(11)
        for bits in (10, 500, 511, 513, 1023, 1024, 1025, 2000, 5000, 20000):
            for shared in (0, 1, bits // 2, bits):
                for longer in (0, 1, 512, 3000):
                    factor = source.getrandbits(shared) | 1
                    first = factor * source.getrandbits(bits + longer)
                    second = -factor * source.getrandbits(bits)
                    self.assertEqual(common_divisor(first, second), gcd(first, second))

    def test_powers_and_neighbours(self):
        for exponent in (1000, 1024, 1025, 1536, 4000):
            for first in (2 ** exponent, 2 ** exponent - 1, 2 ** exponent + 1, 3 ** exponent):
                for second in (2 ** exponent, 2 ** (exponent - 1) + 1, 2 ** exponent + 1, 6 ** 700, first, first * 7):
                    self.assertEqual(common_divisor(first, second), gcd(first, second))

    def test_long_chains(self):
        smaller, larger = 1, 1
        for step in range(6000):
            smaller, larger = larger, smaller + larger
        self.assertEqual(common_divisor(smaller, larger), 1)
        self.assertEqual(common_divisor(12 * smaller, 18 * larger), gcd(12 * smaller, 18 * larger))

    def test_several(self):
        self.assertEqual(divisor_of_all([0, 12, -18, 30]), 6)
        self.assertEqual(divisor_of_all([0, 0]), 0)
        self.assertEqual(common_multiple([4, 6, 10]), 60)
        self.assertEqual(without_content([0, -4, 6]), [0, -2, 3])
        self.assertEqual(without_content([0, 0]), [0, 0])


class Quotients(unittest.TestCase):
    def test_lowest_terms(self):
        source = random.Random(12)
        for turn in range(300):
            under = source.choice([-1, 1]) * source.randint(1, 360)
            overs = [source.randint(-40, 40) * source.choice([1, 6, 15]) for k in range(source.randint(1, 5))]
            wanted = []
            for over in overs:
                wanted += [Fraction(over, under).numerator, Fraction(over, under).denominator]
            self.assertEqual(told_quotients(overs, under), wanted)
