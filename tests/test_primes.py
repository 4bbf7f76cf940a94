"""Primes: [6.5], and [0.7] for them."""

import unittest
from math import prod
from random import Random

from stepdown.primes import exponents, primes, product


def plain_primes(count):
    found = []
    number = 2
    while len(found) < count:
        if all(number % prime for prime in found):
            found.append(number)
        number += 1
    return found


class PrimesTest(unittest.TestCase):
    def test_few(self):
        self.assertEqual(primes(0), [])
        self.assertEqual(primes(1), [2])
        self.assertEqual(primes(2), [2, 3])
        self.assertEqual(primes(8), [2, 3, 5, 7, 11, 13, 17, 19])

    def test_all_numbers_of_primes(self):
        expected = plain_primes(400)
        for count in range(401):
            self.assertEqual(primes(count), expected[:count])

    def test_many(self):
        found = primes(20000)
        self.assertEqual(len(found), 20000)
        self.assertEqual(found[1999], 17389)
        self.assertEqual(found[9999], 104729)
        self.assertEqual(found[19999], 224737)
        self.assertEqual(found, sorted(set(found)))

    def test_a_new_list(self):
        primes(5).clear()
        self.assertEqual(primes(5), [2, 3, 5, 7, 11])
        self.assertIsInstance(primes(5), list)


class ExponentsTest(unittest.TestCase):
    def test_one(self):
        self.assertEqual(exponents(1, [2, 3, 5]), (0, 0, 0))
        self.assertEqual(exponents(1, []), ())

    def test_each_prime_several_times(self):
        self.assertEqual(exponents(360, [2, 3, 5]), (3, 2, 1))
        self.assertEqual(exponents(2, [2, 3, 5]), (1, 0, 0))
        self.assertEqual(exponents(25, [2, 3, 5]), (0, 0, 2))
        self.assertEqual(exponents(2 ** 5 * 3 ** 4 * 5 ** 7 * 13 ** 2, [2, 3, 5, 7, 11, 13]), (5, 4, 7, 0, 0, 2))
        for exponent in range(70):
            self.assertEqual(exponents(3 ** exponent, [2, 3]), (0, exponent))

    def test_the_order_of_the_basis(self):
        self.assertEqual(exponents(360, [5, 2, 3]), (1, 3, 2))
        self.assertEqual(exponents(99, [11, 3]), (1, 2))

    def test_another_prime_factor(self):
        for n in (7, 14, 2 * 3 * 5 * 7, 7 ** 3, 11 * 13, 360 * 49, 2 ** 61 - 1):
            self.assertIsNone(exponents(n, [2, 3, 5]))
        self.assertIsNone(exponents(2, []))
        self.assertIsNone(exponents(12, [2]))
        self.assertIsNone(exponents(12, [3]))

    def test_0(self):
        self.assertIsNone(exponents(0, [2, 3]))
        self.assertIsNone(exponents(-6, [2, 3]))

    def test_great_numbers(self):
        self.assertEqual(exponents(2 ** 100000 * 3 ** 77777, [2, 3, 5]), (100000, 77777, 0))
        self.assertIsNone(exponents(2 ** 100000 * 3 ** 77777 * 7, [2, 3, 5]))

    def test_the_list_that_was_passed(self):
        basis = [2, 3]
        self.assertIsInstance(exponents(12, basis), tuple)
        product(basis, (1, 1))
        self.assertEqual(basis, [2, 3])


class ProductTest(unittest.TestCase):
    def test_product(self):
        self.assertEqual(product([], ()), 1)
        self.assertEqual(product([2, 3, 5], (0, 0, 0)), 1)
        self.assertEqual(product([2, 3, 5], (3, 2, 1)), 360)
        self.assertEqual(product([5, 2, 3], (1, 3, 2)), 360)
        for exponent in range(70):
            self.assertEqual(product([7], (exponent,)), 7 ** exponent)

    def test_each_is_the_way_back_of_the_other(self):
        random = Random(81)
        for count in (1, 2, 5, 30):
            basis = primes(count)
            for most in (1, 5, 60):
                powers = tuple(random.randrange(most + 1) for _ in basis)
                number = product(basis, powers)
                self.assertEqual(number, prod(prime ** power for prime, power in zip(basis, powers)))
                self.assertEqual(exponents(number, basis), powers)
        basis = primes(20)
        for n in range(1, 2000):
            powers = exponents(n, basis)
            if powers is not None:
                self.assertEqual(product(basis, powers), n)
            else:
                self.assertTrue(any(n % prime == 0 for prime in range(73, n + 1)))

    def test_great_numbers(self):
        self.assertEqual(product([2, 3], (100000, 77777)), 2 ** 100000 * 3 ** 77777)


if __name__ == "__main__":
    unittest.main()
