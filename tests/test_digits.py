"""Numbers of digits of products of powers, on which [6.9] rests."""

import unittest
from decimal import ROUND_FLOOR, Decimal, localcontext
from random import Random

from stepdown.digits import digits_of, digits_within, is_below
from stepdown.primes import product


def plain_digits(number):
    """The number of digits, without a string: Python writes no number of more than 4300 digits."""
    digits = 1
    power = 10
    while power <= number:
        power *= 10
        digits += 1
    return digits


class DigitsTest(unittest.TestCase):
    def test_small_numbers(self):
        for number in range(1, 1200):
            self.assertEqual(digits_of([number], (1,)), len(str(number)))
        self.assertEqual(digits_of([], ()), 1)
        self.assertEqual(digits_of([2, 3, 7], (0, 0, 0)), 1)

    def test_products(self):
        random = Random(101)
        for most in (1, 3, 20, 300):
            for _ in range(50):
                powers = tuple(random.randrange(most + 1) for _ in range(4))
                self.assertEqual(digits_of([2, 3, 5, 19], powers), plain_digits(product([2, 3, 5, 19], powers)))

    def test_around_powers_of_ten(self):
        for exponent in list(range(1, 60)) + [127, 128, 129, 300, 1000]:
            self.assertEqual(digits_of([2, 5], (exponent, exponent)), exponent + 1)
            self.assertEqual(digits_of([10], (exponent,)), exponent + 1)
            self.assertEqual(digits_of([10 ** exponent - 1], (1,)), exponent)
            self.assertEqual(digits_of([10 ** exponent + 1], (1,)), exponent + 1)

    def test_bounds_that_do_not_tell(self):
        self.assertIsNone(digits_within([10 ** 300 + 1], (1,), 64))
        self.assertIsNone(digits_within([10 ** 300 - 1], (1,), 64))
        self.assertEqual(digits_within([10 ** 300 - 1], (1,), 2048), 300)

    def test_comparing_shifted_numbers(self):
        for first in range(1, 20):
            for second in range(1, 20):
                for shift in range(4):
                    for other in range(4):
                        self.assertIs(is_below(first, shift, second, other), first << shift < second << other)
        self.assertIs(is_below(1, 10 ** 30, 1, 10 ** 30 + 1), True)
        self.assertIs(is_below(5, 10 ** 30, 9, 10 ** 30 - 1), False)

    def test_numbers_that_cannot_be_written(self):
        for powers in ((10 ** 12, 0, 1), (0, 10 ** 18, 1), (10 ** 30, 10 ** 29 + 7, 1), (2 ** 200, 3 ** 100, 5)):
            with localcontext() as context:
                context.prec = 150
                logarithm = sum(Decimal(power) * Decimal(prime).log10() for prime, power in zip((2, 3, 11), powers))
                expected = int(logarithm.to_integral_value(ROUND_FLOOR)) + 1
            self.assertEqual(digits_of([2, 3, 11], powers), expected)


if __name__ == "__main__":
    unittest.main()
