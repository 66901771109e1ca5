"""Tests of vouchdoor.numbers: is_prime, power and inverse."""

import unittest

from vouchdoor.numbers import inverse, is_prime, power

LIMIT = 1000000


def sieve(limit):
    """For each number up to a limit whether it is a prime."""
    marks = [False, False] + [True] * (limit - 1)
    for number in range(2, limit + 1):
        if number * number > limit:
            break
        if marks[number]:
            for multiple in range(number * number, limit + 1, number):
                marks[multiple] = False
    return marks


MARKS = sieve(LIMIT)
PRIMES = [number for number in range(LIMIT + 1) if MARKS[number]]


class IsPrimeTest(unittest.TestCase):

    def test_smallest_numbers(self):
        self.assertIs(is_prime(0), False)
        self.assertIs(is_prime(1), False)
        self.assertIs(is_prime(2), True)
        self.assertIs(is_prime(3), True)
        self.assertIs(is_prime(4), False)

    def test_all_numbers_up_to_20000(self):
        for number in range(20001):
            self.assertIs(is_prime(number), MARKS[number], number)

    def test_numbers_near_the_limit(self):
        for number in range(LIMIT - 1000, LIMIT + 1):
            self.assertIs(is_prime(number), MARKS[number], number)

    def test_squares_of_primes(self):
        for prime in PRIMES:
            if prime * prime > LIMIT:
                break
            self.assertIs(is_prime(prime * prime), False, prime)

    def test_products_of_two_primes(self):
        for at, one in enumerate(PRIMES):
            if one * one > LIMIT:
                break
            for other in PRIMES[at:]:
                if one * other > LIMIT:
                    break
                self.assertIs(is_prime(one * other), False, (one, other))

    def test_beyond_the_limit(self):
        self.assertIs(is_prime(1000003), True)
        self.assertIs(is_prime(999983 * 999979), False)
        self.assertIs(is_prime(999983 * 999983), False)

    def test_pseudoprimes(self):
        for number in [341, 561, 1105, 1729, 2047, 3215031751]:
            self.assertIs(is_prime(number), False, number)


class PowerTest(unittest.TestCase):

    def test_small_numbers(self):
        for modulus in range(1, 14):
            for base in range(0, 2 * modulus + 1):
                expected = 1
                for exponent in range(0, 20):
                    found = power(base, exponent, modulus)
                    self.assertEqual(found, expected % modulus, (base, exponent, modulus))
                    expected = expected * base

    def test_exponent_0(self):
        for modulus in range(2, 20):
            for base in range(0, 30):
                self.assertEqual(power(base, 0, modulus), 1)

    def test_modulus_1(self):
        for base in range(0, 10):
            for exponent in range(0, 10):
                self.assertEqual(power(base, exponent, 1), 0)

    def test_negative_base(self):
        self.assertEqual(power(-3, 3, 7), 1)
        self.assertEqual(power(-3, 1, 7), 4)
        self.assertEqual(power(-1, 0, 7), 1)

    def test_large_numbers(self):
        self.assertEqual(power(2, 999982, 999983), 1)
        self.assertEqual(power(3, 10 ** 40 + 7, 999983), pow(3, 10 ** 40 + 7, 999983))
        self.assertEqual(power(10 ** 30 + 1, 123456789, 10 ** 20), pow(10 ** 30 + 1, 123456789, 10 ** 20))


class InverseTest(unittest.TestCase):

    def check(self, number, prime):
        found = inverse(number, prime)
        self.assertTrue(1 <= found < prime, (number, prime, found))
        self.assertEqual(number * found % prime, 1, (number, prime, found))

    def test_all_numbers_of_small_primes(self):
        for prime in PRIMES[:30]:
            for number in range(1, prime):
                self.check(number, prime)

    def test_the_prime_2(self):
        self.assertEqual(inverse(1, 2), 1)
        self.assertEqual(inverse(7, 2), 1)

    def test_negative_and_large_numbers(self):
        for prime in PRIMES[:12]:
            for number in range(-3 * prime, 4 * prime):
                if number % prime != 0:
                    self.check(number, prime)

    def test_large_prime(self):
        for number in [1, 2, 3, 499991, 999981, 999982, 10 ** 15, -5]:
            self.check(number, 999983)


class PlaceTest(unittest.TestCase):

    def test_defined_in_their_module(self):
        for function in [is_prime, power, inverse]:
            self.assertEqual(function.__module__, "vouchdoor.numbers")


if __name__ == "__main__":
    unittest.main()
