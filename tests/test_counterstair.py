"""The stair from stacks to counters: [5.9], [5.10], and [0.5], [0.6] for it."""

import unittest
from random import Random

from stepdown.counters import Counters, value
from stepdown.counterstair import CounterStair
from stepdown.stacks import Stacks
from stepdown.stackstair import StackStair
from tests.samples import ADD_ONE, BEAVER, check_promise, check_promise_once, random_side, random_stacks


def sample_stacks():
    """Stack machines, among them one for each kind of row."""
    random = Random(61)
    machines = [
        Stacks([("push", stack, bit, 1), ("pop", stack, 0, 2), None]) for stack in (0, 1) for bit in (0, 1)
    ]
    machines += [Stacks([("pop", 0, 0, 1), ("push", 1, 1, 0)]), StackStair(ADD_ONE).lower]
    return machines + [random_stacks(random, states) for states in (1, 1, 2, 2, 3, 4, 6, 10)]


def expected_rows(machine):
    """The rows that [5.9] tells."""
    rows = []
    for p, row in enumerate(machine.table()):
        e = 7 * p
        if row is None:
            rows += [None] * 7
        elif row[0] == "push":
            _, i, b, t = row
            f = e + 5 if b == 1 else 7 * t
            rows += [
                ("dec", i, e + 1, e + 3), ("inc", 2, e + 2), ("inc", 2, e), ("dec", 2, e + 4, f),
                ("inc", i, e + 3), ("inc", i, 7 * t), None,
            ]
        else:
            _, i, t, u = row
            rows += [
                ("dec", i, e + 1, e + 3), ("dec", i, e + 2, e + 5), ("inc", 2, e), ("dec", 2, e + 4, 7 * t),
                ("inc", i, e + 3), ("dec", 2, e + 6, 7 * u), ("inc", i, e + 5),
            ]
    return rows


class LowerTest(unittest.TestCase):
    def test_all_rows(self):
        for machine in sample_stacks():
            stair = CounterStair(machine)
            self.assertIs(stair.upper, machine)
            self.assertIsInstance(stair.lower, Counters)
            self.assertEqual(stair.lower.count, 3)
            self.assertEqual(stair.lower.states, 7 * machine.states)
            self.assertEqual(stair.lower.table(), expected_rows(machine))

    def test_a_stopped_state(self):
        self.assertEqual(CounterStair(Stacks([None])).lower.table(), [None] * 7)
        self.assertEqual(CounterStair(Stacks([None, None])).lower.states, 14)

    def test_pushes(self):
        rows = CounterStair(Stacks([None, ("push", 0, 0, 2), None])).lower.table()
        self.assertEqual(rows[7:14], [
            ("dec", 0, 8, 10), ("inc", 2, 9), ("inc", 2, 7), ("dec", 2, 11, 14), ("inc", 0, 10), ("inc", 0, 14), None,
        ])
        rows = CounterStair(Stacks([("push", 1, 1, 1), None])).lower.table()
        self.assertEqual(rows[:7], [
            ("dec", 1, 1, 3), ("inc", 2, 2), ("inc", 2, 0), ("dec", 2, 4, 5), ("inc", 1, 3), ("inc", 1, 7), None,
        ])

    def test_pops(self):
        rows = CounterStair(Stacks([None, ("pop", 0, 2, 0), None])).lower.table()
        self.assertEqual(rows[7:14], [
            ("dec", 0, 8, 10), ("dec", 0, 9, 12), ("inc", 2, 7), ("dec", 2, 11, 14),
            ("inc", 0, 10), ("dec", 2, 13, 0), ("inc", 0, 12),
        ])
        rows = CounterStair(Stacks([("pop", 1, 0, 1), None])).lower.table()
        self.assertEqual(rows[:7], [
            ("dec", 1, 1, 3), ("dec", 1, 2, 5), ("inc", 2, 0), ("dec", 2, 4, 0),
            ("inc", 1, 3), ("dec", 2, 6, 7), ("inc", 1, 5),
        ])

    def test_the_greatest_machine(self):
        machine = Stacks([("push", 0, 1, 4999), ("pop", 1, 4999, 0)] * 2500)
        stair = CounterStair(machine)
        self.assertEqual(stair.lower.states, 35000)
        self.assertEqual(stair.lower.table(), expected_rows(machine))


class DownAndUpTest(unittest.TestCase):
    stair = CounterStair(Stacks([("pop", 0, 1, 2), ("push", 1, 1, 0), None]))

    def test_down(self):
        self.assertEqual(self.stair.down((0, (), ())), (0, (0, 0, 0)))
        self.assertEqual(self.stair.down((2, (1,), ())), (14, (1, 0, 0)))
        self.assertEqual(self.stair.down((1, (0, 1), (1, 0, 0, 1))), (7, (2, 9, 0)))

    def test_up(self):
        self.assertEqual(self.stair.up((0, (0, 0, 0))), (0, (), ()))
        self.assertEqual(self.stair.up((14, (1, 0, 0))), (2, (1,), ()))
        self.assertEqual(self.stair.up((7, (2, 9, 0))), (1, (0, 1), (1, 0, 0, 1)))

    def test_a_state_between(self):
        for state in range(21):
            self.assertIs(self.stair.up((state, (2, 9, 0))) is None, state % 7 != 0)
            self.assertIs(self.stair.up((state, (0, 0, 0))) is None, state % 7 != 0)

    def test_a_third_counter_that_is_not_0(self):
        for state in (0, 1, 7, 14, 20):
            for spare in (1, 2, 10 ** 40):
                self.assertIsNone(self.stair.up((state, (2, 9, spare))))
                self.assertIsNone(self.stair.up((state, (0, 0, spare))))

    def test_each_is_the_way_back_of_the_other(self):
        random = Random(62)
        for _ in range(100):
            upper = (random.randrange(3), random_side(random, 2, 90), random_side(random, 2, 90))
            self.assertEqual(self.stair.up(self.stair.down(upper)), upper)
            lower = (7 * random.randrange(3), (random.randrange(10 ** 20), random.randrange(9), 0))
            self.assertEqual(self.stair.down(self.stair.up(lower)), lower)


class PromiseTest(unittest.TestCase):
    def test_pace(self):
        for number, bits in ((0, ()), (1, (1,)), (2, (0, 1)), (3, (1, 1)), (6, (0, 1, 1)), (9, (1, 0, 0, 1))):
            other = (1, 1, 1, 1)
            for stack in (0, 1):
                stacks = (bits, other) if stack == 0 else (other, bits)
                for bit in (0, 1):
                    stair = CounterStair(Stacks([("push", stack, bit, 1), None]))
                    self.assertEqual(stair.pace((0,) + stacks), 7 * number + 2 + bit)
                    self.assertEqual(stair.ending((0,) + stacks), 0)
                    self.assertEqual(stair.pace((1,) + stacks), 0)
                    self.assertEqual(stair.ending((1,) + stacks), 0)
                stair = CounterStair(Stacks([("pop", stack, 1, 1), None]))
                self.assertEqual(stair.pace((0,) + stacks), 5 * (number // 2) + 2 + number % 2)
                self.assertEqual(stair.ending((0,) + stacks), 0)

    def test_pace_of_great_numbers(self):
        bits = (1, 0) * 500 + (1,)
        number = value(bits)
        stair = CounterStair(Stacks([("push", 0, 1, 1), ("pop", 1, 0, 0)]))
        self.assertEqual(stair.pace((0, bits, ())), 7 * number + 3)
        self.assertEqual(stair.pace((1, (), bits)), 5 * (number // 2) + 3)
        self.assertEqual(stair.pace((1, (), (0,) + bits)), 5 * number + 2)

    def test_the_promise(self):
        random = Random(63)
        for machine in sample_stacks():
            stair = CounterStair(machine)
            check_promise(self, stair, (0, (), ()), 8)
            for _ in range(12):
                stacks = (random_side(random, 2, 4), random_side(random, 2, 4))
                check_promise(self, stair, (random.randrange(machine.states),) + stacks, 5)

    def test_each_row_with_all_small_numbers(self):
        for machine in sample_stacks()[:4]:
            stair = CounterStair(machine)
            sides = [(), (1,), (0, 1), (1, 1), (0, 0, 1), (1, 0, 1), (0, 1, 1), (1, 1, 1)]
            for state in (0, 1, 2):
                for first in sides:
                    for second in sides:
                        check_promise_once(self, stair, (state, first, second))

    def test_where_the_machine_has_stopped(self):
        stair = CounterStair(Stacks([None, ("push", 0, 0, 0)]))
        for stacks in (((), ()), ((1,), (0, 1))):
            self.assertIs(check_promise_once(self, stair, (0,) + stacks), False)
            lower = stair.down((0,) + stacks)
            self.assertEqual(stair.lower.run(lower, 100), (lower, 0))

    def test_the_beaver(self):
        upper = StackStair(BEAVER).lower
        stair = CounterStair(upper)
        after, taken = stair.lower.run(stair.down((0, (), ())), 10 ** 7)
        self.assertLess(taken, 10 ** 7)
        self.assertEqual(stair.up(after), upper.run((0, (), ()), 10 ** 7)[0])
        self.assertIs(stair.lower.stopped(after), True)


if __name__ == "__main__":
    unittest.main()
