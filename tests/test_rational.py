"""Words: fractions, their bits and weights."""

import unittest
from fractions import Fraction
from math import gcd

from backchains.rational import greatest_divisor, lowest, lowest_within, read_fractions, weight


def fibonacci(count):
    pair = (0, 1)
    for _ in range(count):
        pair = (pair[1], pair[0] + pair[1])
    return pair


class Rational(unittest.TestCase):
    def test_weights_of_the_document(self):
        self.assertEqual([weight((0, 1)), weight((1, 1)), weight((-3, 4))], [1, 2, 5])

    def test_greatest_divisor(self):
        for a in range(40):
            for b in range(1, 40):
                self.assertEqual(greatest_divisor(a, b), gcd(a, b))

    def test_lowest(self):
        for numerator in range(-20, 21):
            for denominator in list(range(-20, 0)) + list(range(1, 21)):
                expected = Fraction(numerator, denominator)
                self.assertEqual(lowest(numerator, denominator), (expected.numerator, expected.denominator))

    def test_lowest_within(self):
        for most in range(1, 12):
            for numerator in range(-20, 21):
                for denominator in range(1, 21):
                    fraction = lowest(numerator, denominator)
                    expected = fraction if weight(fraction) <= most else None
                    self.assertEqual(lowest_within(numerator, denominator, most), expected)

    def test_lowest_within_where_dividing_takes_longest(self):
        factor = 3 ** 9000
        for count in (100, 2500, 2880, 2890):
            pair = fibonacci(count)
            heavy = weight(pair)
            for fraction in (pair, (-pair[1], pair[0])):
                self.assertEqual(lowest_within(fraction[0] * factor, fraction[1] * factor, heavy), fraction)
                self.assertIsNone(lowest_within(fraction[0] * factor, fraction[1] * factor, heavy - 1))

    def test_read_fractions(self):
        self.assertEqual(read_fractions([], 0), [])
        self.assertEqual(read_fractions([2, 4, -6, 3], 2), [(1, 2), (-2, 1)])
        for numbers in ([], [1], [1, 1, 1], [1, 0], [1, -1]):
            self.assertIsNone(read_fractions(numbers, 1))


if __name__ == "__main__":
    unittest.main()
