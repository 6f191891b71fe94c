"""Greatest common divisors, lowest terms and prime factors."""

import math
import unittest

from roundprice.whole import common_divisor, lowest, prime_factors


class CommonDivisor(unittest.TestCase):
    def test_small_ones(self):
        for one in range(61):
            for other in range(1, 61):
                self.assertEqual(common_divisor(one, other), math.gcd(one, other), (one, other))

    def test_below_nought(self):
        for one in range(-60, 0):
            for other in range(1, 61):
                self.assertEqual(common_divisor(one, other), math.gcd(one, other), (one, other))

    def test_great_ones(self):
        self.assertEqual(common_divisor(6 * 10 ** 80, 4 * 10 ** 75), 2 * 10 ** 75 * math.gcd(3 * 10 ** 5, 2))
        self.assertEqual(common_divisor(10 ** 90 + 1, 10 ** 90), 1)


class Lowest(unittest.TestCase):
    def test_terms(self):
        self.assertEqual(lowest(6, 4), (3, 2))
        self.assertEqual(lowest(7, 7), (1, 1))
        self.assertEqual(lowest(3, 5), (3, 5))
        self.assertEqual(lowest(12, 1), (12, 1))
        self.assertEqual(lowest(10 ** 70, 4 * 10 ** 69), (5, 2))

    def test_below_nought(self):
        self.assertEqual(lowest(-6, 4), (-3, 2))
        self.assertEqual(lowest(-3, 5), (-3, 5))
        self.assertEqual(lowest(-12, 4), (-3, 1))

    def test_nought(self):
        self.assertEqual(lowest(0, 1), (0, 1))
        self.assertEqual(lowest(0, 36), (0, 1))


class PrimeFactors(unittest.TestCase):
    def test_some(self):
        self.assertEqual(prime_factors(1), [])
        self.assertEqual(prime_factors(2), [2])
        self.assertEqual(prime_factors(97), [97])
        self.assertEqual(prime_factors(49), [7, 7])
        self.assertEqual(prime_factors(20000), [2, 2, 2, 2, 2, 5, 5, 5, 5])

    def test_they_multiply_to_the_number_and_none_can_be_parted(self):
        for number in range(1, 2001):
            factors = prime_factors(number)
            self.assertEqual(math.prod(factors), number)
            self.assertEqual(factors, sorted(factors))
            for prime in factors:
                self.assertTrue(prime > 1 and all(prime % part > 0 for part in range(2, prime)), number)


if __name__ == "__main__":
    unittest.main()
