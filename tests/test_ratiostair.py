"""The stair from counters to lists of fractions: [6.6] to [6.11], and [0.5], [0.6] for it."""

import unittest
from random import Random

from stepdown.counters import Counters
from stepdown.errors import BadMachine
from stepdown.primes import primes
from stepdown.ratios import Ratios
from stepdown.ratiostair import RatioStair
from tests.samples import check_promise, check_promise_once, random_counters
from tests.test_digits import plain_digits

EXAMPLE = Counters(2, [("dec", 0, 1, 2), ("inc", 1, 0), None])


def sample_counters():
    """Counter machines with all numbers of counters, some with rows that lead back to their own states."""
    random = Random(111)
    machines = [EXAMPLE, Counters(1, [("inc", 0, 0)]), Counters(1, [("dec", 0, 0, 0)]), Counters(1, [None])]
    machines += [Counters(2, [("dec", 1, 0, 1), ("dec", 0, 2, 1), None])]
    return machines + [random_counters(random, count, states) for count in (1, 2, 3, 4) for states in (1, 2, 3, 6)]


def expected_fractions(machine):
    """The fractions that [6.6] tells."""
    k = machine.count
    P = primes(k + 2 * machine.states)
    A = [P[k + 2 * q] for q in range(machine.states)]
    B = [P[k + 2 * q + 1] for q in range(machine.states)]
    fractions = []
    for q, row in enumerate(machine.table()):
        if row is not None and row[0] == "inc":
            _, i, t = row
            fractions.append((P[i] * B[t], A[q]))
        if row is not None and row[0] == "dec":
            _, i, t, u = row
            fractions.append((B[t], A[q] * P[i]))
            fractions.append((B[u], A[q]))
        fractions.append((A[q], B[q]))
    return fractions


class LowerTest(unittest.TestCase):
    def test_all_fractions(self):
        for machine in sample_counters():
            stair = RatioStair(machine)
            self.assertIs(stair.upper, machine)
            self.assertIsInstance(stair.lower, Ratios)
            self.assertEqual(stair.lower.table(), expected_fractions(machine))

    def test_each_kind_of_row(self):
        self.assertEqual(RatioStair(Counters(1, [None])).lower.table(), [(3, 5)])
        self.assertEqual(RatioStair(Counters(1, [("inc", 0, 1), None])).lower.table(), [(22, 3), (3, 5), (7, 11)])
        stair = RatioStair(Counters(1, [("dec", 0, 2, 1), None, None]))
        self.assertEqual(stair.lower.table(), [(17, 6), (11, 3), (3, 5), (7, 11), (13, 17)])

    def test_rows_that_lead_back_to_their_own_state(self):
        self.assertEqual(RatioStair(Counters(1, [("inc", 0, 0)])).lower.table(), [(10, 3), (3, 5)])
        self.assertEqual(RatioStair(Counters(1, [("dec", 0, 0, 0)])).lower.table(), [(5, 6), (5, 3), (3, 5)])

    def test_number_of_states(self):
        rows = [("dec", 3, 999, 0), ("inc", 0, 999)] * 500
        stair = RatioStair(Counters(4, rows))
        self.assertEqual(len(stair.lower.table()), 2500)
        self.assertEqual(stair.lower.table(), expected_fractions(stair.upper))
        self.assertEqual(len(RatioStair(Counters(1, [("dec", 0, 0, 0)] * 1000)).lower.table()), 3000)
        for states in (1001, 1002, 40000):
            with self.assertRaises(BadMachine):
                RatioStair(Counters(1, [None] * states))


class DownAndUpTest(unittest.TestCase):
    stair = RatioStair(EXAMPLE)

    def test_down(self):
        self.assertEqual(self.stair.down((0, (0, 0))), (5,))
        self.assertEqual(self.stair.down((0, (2, 1))), (60,))
        self.assertEqual(self.stair.down((1, (0, 3))), (11 * 27,))
        self.assertEqual(self.stair.down((2, (1, 0))), (34,))
        self.assertEqual(self.stair.down((2, (5000, 3000))), (17 * 2 ** 5000 * 3 ** 3000,))

    def test_up(self):
        self.assertEqual(self.stair.up((5,)), (0, (0, 0)))
        self.assertEqual(self.stair.up((60,)), (0, (2, 1)))
        self.assertEqual(self.stair.up((459,)), (2, (0, 3)))
        self.assertEqual(self.stair.up((17 * 2 ** 5000 * 3 ** 3000,)), (2, (5000, 3000)))

    def test_numbers_that_belong_to_none(self):
        wrong = [
            1, 2, 3, 6, 2 ** 70 * 3 ** 9,  # no state
            7, 13, 19, 7 * 12, 78,  # the second prime of a state
            5 * 11, 5 * 17, 11 * 17 * 6, 5 * 11 * 17,  # two states
            25, 60 * 5, 121 * 3, 17 ** 3,  # a state's prime twice
            5 * 7, 5 * 13, 60 * 19, 5 * 49,  # a first and a second prime
            23, 5 * 23, 60 * 29, 17 * 23 ** 2, 5 * (2 ** 61 - 1),  # another prime
        ]
        for n in wrong:
            self.assertIsNone(self.stair.up((n,)), n)

    def test_all_small_numbers(self):
        for machine in sample_counters()[:6]:
            stair = RatioStair(machine)
            belongs = {}
            for state in range(machine.states):
                for a in range(10):
                    for b in range(7 if machine.count == 2 else 1):
                        configuration = (state, (a, b)[:machine.count])
                        belongs[stair.down(configuration)[0]] = configuration
            for n in range(1, 700):
                self.assertEqual(stair.up((n,)), belongs.get(n))

    def test_each_is_the_way_back_of_the_other(self):
        random = Random(112)
        for machine in sample_counters():
            stair = RatioStair(machine)
            for most in (1, 5, 200):
                counters = tuple(random.randrange(most + 1) for _ in range(machine.count))
                configuration = (random.randrange(machine.states), counters)
                self.assertEqual(stair.up(stair.down(configuration)), configuration)


class PromiseTest(unittest.TestCase):
    def test_pace_and_ending(self):
        stair = RatioStair(EXAMPLE)
        for counters in ((0, 0), (1, 0), (0, 1), (300, 7)):
            self.assertEqual([stair.pace((state, counters)) for state in range(3)], [2, 2, 0])
            self.assertEqual([stair.ending((state, counters)) for state in range(3)], [0, 0, 0])

    def test_the_promise(self):
        random = Random(113)
        for machine in sample_counters():
            stair = RatioStair(machine)
            for most in (0, 1, 2, 30):
                for state in range(machine.states):
                    counters = tuple(random.randrange(most + 1) for _ in range(machine.count))
                    check_promise(self, stair, (state, counters), 12)

    def test_a_counter_that_is_0_and_one_that_is_not(self):
        for rows in ([("dec", 0, 0, 1), None], [("dec", 0, 1, 0), None], [("inc", 0, 0)], [("inc", 0, 1), None]):
            for number in (0, 1, 2, 9):
                self.assertIs(check_promise_once(self, RatioStair(Counters(1, rows)), (0, (number,))), True)

    def test_where_the_machine_has_stopped(self):
        stair = RatioStair(EXAMPLE)
        for counters in ((0, 0), (3, 4)):
            self.assertIs(check_promise_once(self, stair, (2, counters)), False)
            lower = stair.down((2, counters))
            self.assertEqual(stair.lower.run(lower, 100), (lower, 0))

    def test_many_states(self):
        stair = RatioStair(Counters(2, [("inc", 0, at + 1) for at in range(999)] + [("dec", 0, 999, 0)]))
        for configuration in ((0, (0, 0)), (997, (3, 2)), (999, (4, 1)), (999, (0, 1))):
            check_promise(self, stair, configuration, 3)


class SizeTest(unittest.TestCase):
    def test_small_numbers(self):
        for machine in (EXAMPLE, Counters(2, [None])):
            stair = RatioStair(machine)
            for state in range(machine.states):
                for a in range(20):
                    for b in range(20):
                        number = stair.down((state, (a, b)))[0]
                        self.assertEqual(stair.size((a, b), state), len(str(number)))

    def test_a_power_of_ten(self):
        # 10 is 2 * 5, and 5 is the prime of the state 0.
        self.assertEqual(RatioStair(EXAMPLE).size((1, 0), 0), 2)
        self.assertEqual(RatioStair(EXAMPLE).size((0, 0), 0), 1)

    def test_all_numbers_of_counters(self):
        random = Random(114)
        for machine in sample_counters():
            stair = RatioStair(machine)
            for _ in range(10):
                counters = tuple(random.randrange(60) for _ in range(machine.count))
                state = random.randrange(machine.states)
                self.assertEqual(stair.size(counters, state), len(str(stair.down((state, counters))[0])))

    def test_great_numbers(self):
        stair = RatioStair(EXAMPLE)
        for counters in ((10000, 0), (0, 10000), (12345, 6789), (20000, 20000)):
            for state in range(3):
                self.assertEqual(stair.size(counters, state), plain_digits(stair.down((state, counters))[0]))
        number = stair.down((1, (10 ** 6, 10 ** 5)))[0]
        digits = stair.size((10 ** 6, 10 ** 5), 1)
        self.assertTrue(10 ** (digits - 1) <= number < 10 ** digits)


class ExampleTest(unittest.TestCase):
    def test_adding(self):
        stair = RatioStair(EXAMPLE)
        self.assertEqual(stair.lower.table(), [(13, 10), (19, 5), (5, 7), (21, 11), (11, 13), (17, 19)])
        numbers = [60, 78, 66, 126, 90, 117, 99, 189, 135, 513, 459]
        self.assertEqual(stair.down((0, (2, 1))), (60,))
        for steps, n in enumerate(numbers):
            self.assertEqual(stair.lower.run((60,), steps), ((n,), steps))
        self.assertIs(stair.lower.stopped((459,)), True)
        self.assertEqual(stair.up((459,)), (2, (0, 3)))


if __name__ == "__main__":
    unittest.main()
