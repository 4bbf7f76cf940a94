"""Lists of fractions: [6.2] to [6.4], and [0.4], [0.7] for them."""

import unittest
from math import gcd
from random import Random

from stepdown.errors import BadMachine
from stepdown.ratios import Ratios, reduced
from tests.samples import NO_NUMBERS, check_step_and_run

EXAMPLE = [(13, 10), (19, 5), (5, 7), (21, 11), (11, 13), (17, 19)]


def plain_used(fractions, n):
    """The index of the first fraction that fits."""
    for at, (p, q) in enumerate(fractions):
        if n * p % q == 0:
            return at
    return -1


def random_fractions(random, many, most):
    return [(random.randrange(1, most), random.randrange(1, most)) for _ in range(many)]


class MakingTest(unittest.TestCase):
    def refused(self, fractions):
        with self.assertRaises(BadMachine):
            Ratios(fractions)

    def test_number_of_fractions(self):
        self.assertEqual(Ratios([]).table(), [])
        self.assertEqual(Ratios([(1, 1)]).table(), [(1, 1)])
        fractions = [(at + 1, at + 2) for at in range(5000)]
        self.assertEqual(Ratios(fractions).table(), fractions)
        self.refused(fractions + [(1, 1)])
        self.refused([(1, 1)] * 5001)
        self.refused([(1, 1)] * 20000)

    def test_no_list(self):
        for fractions in (None, 3, (), ((1, 1),), {(1, 1): 1}, "11", True):
            self.refused(fractions)

    def test_members_of_another_form(self):
        wrong = [
            [1, 1], (), (1,), (1, 1, 1), 1, True, None, "11", "", b"11", {}, 1.5,
            (0, 1), (1, 0), (0, 0), (-1, 1), (1, -1), (-1, -1), (-10 ** 30, 1), (1, -10 ** 30),
        ]
        for value in NO_NUMBERS:
            wrong += [(value, 1), (1, value), (value, value)]
        for member in wrong:
            self.refused([member])
            self.refused([(1, 2), member])
            self.refused([member, (1, 2)])

    def test_great_numbers(self):
        great = 10 ** 5000
        self.assertEqual(Ratios([(great, great + 1)]).table(), [(great, great + 1)])

    def test_the_list_is_copied(self):
        fractions = list(EXAMPLE)
        machine = Ratios(fractions)
        fractions[0] = (1, 1)
        fractions.append((1, 1))
        self.assertEqual(machine.table(), EXAMPLE)
        self.assertEqual(machine.step((60,)), (78,))
        self.assertEqual(machine.used((459,)), -1)
        self.assertEqual(fractions, [(1, 1)] + EXAMPLE[1:] + [(1, 1)])


class TableTest(unittest.TestCase):
    def test_table_is_new(self):
        machine = Ratios(EXAMPLE)
        table = machine.table()
        self.assertEqual(table, EXAMPLE)
        self.assertIsInstance(table, list)
        table.clear()
        self.assertEqual(machine.table(), EXAMPLE)

    def test_fractions_stay_as_they_were_passed(self):
        self.assertEqual(Ratios([(2, 4), (9, 3), (5, 5)]).table(), [(2, 4), (9, 3), (5, 5)])


class StepTest(unittest.TestCase):
    def check(self, machine, n, at, after):
        self.assertEqual(machine.used((n,)), at)
        self.assertEqual(machine.step((n,)), after)
        self.assertIs(machine.stopped((n,)), at == -1)

    def test_the_first_fraction_that_fits(self):
        machine = Ratios([(1, 4), (3, 2), (5, 6), (7, 1)])
        self.check(machine, 4, 0, (1,))
        self.check(machine, 12, 0, (3,))
        self.check(machine, 6, 1, (9,))
        self.check(machine, 9, 3, (63,))
        machine = Ratios([(7, 1), (1, 4), (3, 2)])
        self.check(machine, 4, 0, (28,))

    def test_the_same_fraction_twice(self):
        self.check(Ratios([(1, 3), (1, 2), (1, 2)]), 2, 1, (1,))

    def test_the_empty_list(self):
        for n in (1, 2, 60, 10 ** 50):
            self.check(Ratios([]), n, -1, None)
            self.assertEqual(Ratios([]).run((n,), 5), ((n,), 0))

    def test_stopped(self):
        machine = Ratios([(1, 2), (5, 3)])
        self.check(machine, 1, -1, None)
        self.check(machine, 35, -1, None)
        self.check(machine, 10 ** 40 + 1, -1, None)

    def test_fractions_that_are_not_in_lowest_terms(self):
        machine = Ratios([(2, 4), (6, 3)])
        self.check(machine, 2, 0, (1,))
        self.check(machine, 6, 0, (3,))
        self.check(machine, 5, 1, (10,))
        self.check(Ratios([(10, 10)]), 7, 0, (7,))
        self.check(Ratios([(10, 15)]), 3, 0, (2,))
        self.check(Ratios([(10, 15)]), 5, -1, None)

    def test_a_fraction_below_that_divides_only_the_product(self):
        # 3 * 2 is divisible by 6, and 3 is not.
        self.check(Ratios([(2, 6)]), 3, 0, (1,))
        self.check(Ratios([(4, 6)]), 3, 0, (2,))

    def test_random_machines(self):
        random = Random(91)
        for _ in range(300):
            fractions = random_fractions(random, random.randrange(6), random.choice((4, 20, 100)))
            machine = Ratios(fractions)
            for _ in range(10):
                n = random.randrange(1, 300)
                at = plain_used(fractions, n)
                after = None if at == -1 else (n * fractions[at][0] // fractions[at][1],)
                self.check(machine, n, at, after)

    def test_great_numbers(self):
        n = 2 ** 9000 * 3 ** 50
        machine = Ratios([(1, 7), (5, 2), (1, 3)])
        self.check(machine, n, 1, (n // 2 * 5,))
        after, taken = machine.run((n,), 10 ** 12)
        self.assertEqual((after, taken), ((5 ** 9000,), 9050))


class RunTest(unittest.TestCase):
    def test_the_example(self):
        machine = Ratios(EXAMPLE)
        numbers = [60, 78, 66, 126, 90, 117, 99, 189, 135, 513, 459]
        for taken, n in enumerate(numbers):
            self.assertEqual(machine.run((60,), taken), ((n,), taken))
        self.assertEqual(machine.run((60,), 11), ((459,), 10))
        self.assertEqual(machine.run((60,), 10 ** 12), ((459,), 10))
        self.assertEqual([machine.used((n,)) for n in numbers], [0, 4, 3, 2, 0, 4, 3, 2, 1, 5, -1])

    def test_no_steps(self):
        for n in (1, 60, 459):
            self.assertEqual(Ratios(EXAMPLE).run((n,), 0), ((n,), 0))

    def test_run(self):
        random = Random(92)
        for _ in range(60):
            machine = Ratios(random_fractions(random, random.randrange(6), 12))
            check_step_and_run(self, machine, (random.randrange(1, 1000),), 12)


class ReducedTest(unittest.TestCase):
    def test_reduced(self):
        machine = Ratios([(2, 4), (3, 7), (9, 3), (10, 15), (5, 5), (1, 1), (4, 6)])
        found = reduced(machine)
        self.assertIsInstance(found, Ratios)
        self.assertEqual(found.table(), [(1, 2), (3, 7), (3, 1), (2, 3), (1, 1), (1, 1), (2, 3)])

    def test_the_machine_that_was_passed(self):
        machine = Ratios([(2, 4), (9, 3)])
        reduced(machine)
        self.assertEqual(machine.table(), [(2, 4), (9, 3)])
        self.assertIsNot(reduced(machine), machine)

    def test_no_fractions(self):
        self.assertEqual(reduced(Ratios([])).table(), [])

    def test_fractions_without_common_factors(self):
        self.assertEqual(reduced(Ratios(EXAMPLE)).table(), EXAMPLE)

    def test_the_same_steps(self):
        random = Random(93)
        for _ in range(200):
            machine = Ratios(random_fractions(random, random.randrange(1, 7), random.choice((4, 20, 100))))
            found = reduced(machine)
            for (p, q), (above, below) in zip(machine.table(), found.table()):
                self.assertEqual(gcd(above, below), 1)
                self.assertEqual(p * below, q * above)
            for n in [random.randrange(1, 500) for _ in range(20)] + [10 ** 40, 6 ** 60]:
                self.assertEqual(found.used((n,)), machine.used((n,)))
                self.assertEqual(found.step((n,)), machine.step((n,)))
                self.assertEqual(found.run((n,), 9), machine.run((n,), 9))


if __name__ == "__main__":
    unittest.main()
