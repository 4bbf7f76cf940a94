"""The stair from tapes with two marks to stacks: [5.4], [5.5], and [0.5], [0.6] for it."""

import unittest
from random import Random

from stepdown.errors import BadMachine
from stepdown.stacks import Stacks
from stepdown.stackstair import StackStair
from stepdown.tape import Tape
from tests.samples import ADD_ONE, BEAVER, check_promise, check_promise_once, random_configuration, random_tape


def two_mark_tapes():
    """Machines with two marks."""
    random = Random(41)
    return [ADD_ONE, BEAVER] + [random_tape(random, 2, states) for states in (1, 1, 2, 2, 3, 3, 4, 5, 9)]


def expected_rows(machine):
    """The rows that [5.4] tells."""
    rows = []
    for q in range(machine.states):
        rows.append(("pop", 1, 9 * q + 1, 9 * q + 5))
        for a in (0, 1):
            e = 9 * q + 1 + 4 * a
            row = machine.row(q, a)
            if row is None:
                rows += [None] * 4
            elif row[1] == 1:
                rows += [("push", 0, row[0], 9 * row[2]), None, None, None]
            else:
                t = 9 * row[2]
                rows += [("push", 1, row[0], e + 1), ("pop", 0, e + 2, e + 3), ("push", 1, 0, t), ("push", 1, 1, t)]
    return rows


class LowerTest(unittest.TestCase):
    def test_all_rows(self):
        for machine in two_mark_tapes():
            stair = StackStair(machine)
            self.assertIs(stair.upper, machine)
            self.assertIsInstance(stair.lower, Stacks)
            self.assertEqual(stair.lower.states, 9 * machine.states)
            self.assertEqual(stair.lower.table(), expected_rows(machine))

    def test_one_machine(self):
        stair = StackStair(Tape(2, 2, [None, (1, 1, 1), (0, -1, 1), (0, 1, 0)]))
        self.assertEqual(stair.lower.table(), [
            ("pop", 1, 1, 5), None, None, None, None, ("push", 0, 1, 9), None, None, None,
            ("pop", 1, 10, 14),
            ("push", 1, 0, 11), ("pop", 0, 12, 13), ("push", 1, 0, 9), ("push", 1, 1, 9),
            ("push", 0, 0, 0), None, None, None,
        ])

    def test_other_numbers_of_marks(self):
        for marks in range(3, 17):
            with self.assertRaises(BadMachine):
                StackStair(Tape(marks, 1, [None] * marks))

    def test_number_of_states(self):
        rows = [(1, 1, 499), (0, -1, 0)] * 500
        stair = StackStair(Tape(2, 500, rows))
        self.assertEqual(stair.lower.states, 4500)
        self.assertEqual(stair.lower.table(), expected_rows(stair.upper))
        for states in (501, 555, 556, 4000):
            with self.assertRaises(BadMachine):
                StackStair(Tape(2, states, [None] * (2 * states)))


class DownAndUpTest(unittest.TestCase):
    def test_down(self):
        stair = StackStair(BEAVER)
        self.assertEqual(stair.down((0, (), 0, ())), (0, (), ()))
        self.assertEqual(stair.down((2, (), 1, ())), (18, (), (1,)))
        self.assertEqual(stair.down((3, (0, 1), 0, ())), (27, (0, 1), ()))
        self.assertEqual(stair.down((1, (1, 1), 0, (1,))), (9, (1, 1), (0, 1)))
        self.assertEqual(stair.down((1, (), 1, (0, 0, 1))), (9, (), (1, 0, 0, 1)))

    def test_up(self):
        stair = StackStair(BEAVER)
        self.assertEqual(stair.up((0, (), ())), (0, (), 0, ()))
        self.assertEqual(stair.up((18, (), (1,))), (2, (), 1, ()))
        self.assertEqual(stair.up((27, (0, 1), ())), (3, (0, 1), 0, ()))
        self.assertEqual(stair.up((9, (1, 1), (0, 1))), (1, (1, 1), 0, (1,)))
        self.assertEqual(stair.up((9, (), (1, 0, 0, 1))), (1, (), 1, (0, 0, 1)))

    def test_configurations_that_belong_to_none(self):
        stair = StackStair(BEAVER)
        for state in range(36):
            for stacks in (((), ()), ((1,), (0, 1)), ((0, 0, 1), (1,))):
                self.assertIs(stair.up((state,) + stacks) is None, state % 9 != 0)

    def test_all_small_configurations(self):
        stair = StackStair(Tape(2, 2, [None] * 4))
        sides = [(), (1,), (0, 1), (1, 1), (0, 0, 1), (1, 0, 1)]
        for first in sides:
            for second in sides:
                for state in (0, 9):
                    upper = stair.up((state, first, second))
                    self.assertTrue(stair.upper.is_configuration(upper))
                    self.assertEqual(stair.down(upper), (state, first, second))


class PromiseTest(unittest.TestCase):
    def test_pace_and_ending(self):
        stair = StackStair(Tape(2, 2, [None, (1, 1, 1), (0, -1, 1), (0, 1, 0)]))
        for left, right in (((), ()), ((0, 1), (1,))):
            self.assertEqual(stair.pace((0, left, 0, right)), 0)
            self.assertEqual(stair.ending((0, left, 0, right)), 1)
            self.assertEqual(stair.pace((0, left, 1, right)), 2)
            self.assertEqual(stair.ending((0, left, 1, right)), 0)
            self.assertEqual(stair.pace((1, left, 0, right)), 4)
            self.assertEqual(stair.ending((1, left, 0, right)), 0)
            self.assertEqual(stair.pace((1, left, 1, right)), 2)

    def test_the_promise(self):
        random = Random(42)
        for machine in two_mark_tapes():
            stair = StackStair(machine)
            check_promise(self, stair, (0, (), 0, ()), 30)
            for _ in range(12):
                check_promise(self, stair, random_configuration(random, machine), 20)

    def test_moves_to_both_sides_over_blank_places(self):
        for move in (-1, 1):
            for mark in (0, 1):
                machine = Tape(2, 1, [(mark, move, 0), (1 - mark, move, 0)])
                for configuration in ((0, (), 0, ()), (0, (), 1, ()), (0, (0, 1), 1, (0, 0, 1)), (0, (1,), 0, (1,))):
                    check_promise(self, StackStair(machine), configuration, 8)

    def test_where_the_machine_has_stopped(self):
        machine = Tape(2, 2, [None, None, (0, 1, 0), None])
        stair = StackStair(machine)
        for configuration in ((0, (), 0, ()), (0, (1,), 1, (0, 1)), (1, (0, 1), 1, ())):
            self.assertIs(check_promise_once(self, stair, configuration), False)
            after, taken = stair.lower.run(stair.down(configuration), 100)
            self.assertEqual(taken, 1)
            self.assertIsNone(stair.up(after))

    def test_the_beaver(self):
        stair = StackStair(BEAVER)
        paces = []
        configuration = (0, (), 0, ())
        while not BEAVER.stopped(configuration):
            paces.append(stair.pace(configuration))
            configuration = BEAVER.step(configuration)
        after, taken = stair.lower.run(stair.down((0, (), 0, ())), 10 ** 6)
        self.assertEqual(taken, sum(paces) + 1)
        self.assertEqual(stair.lower.run(stair.down((0, (), 0, ())), sum(paces))[0], stair.down(configuration))
        self.assertIs(stair.lower.stopped(after), True)


if __name__ == "__main__":
    unittest.main()
