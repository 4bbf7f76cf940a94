"""Stack machines: [5.2], [5.3], and [0.4], [0.7] for them."""

import unittest
from random import Random

from stepdown.errors import BadMachine
from stepdown.stacks import Stacks
from tests.samples import NO_NUMBERS, check_step_and_run, random_side, random_stacks

ROWS = [("pop", 0, 0, 1), ("push", 1, 1, 0), None]
MOVES_ONES = Stacks(ROWS)


def one_push(stack, bit):
    """A machine that pushes a bit and stops."""
    return Stacks([("push", stack, bit, 1), None])


def one_pop(stack):
    """A machine that pops a bit and stops in the state 1 or 2."""
    return Stacks([("pop", stack, 1, 2), None, None])


def plain_step(machine, configuration):
    """What [5.2] says, with stacks of a hundred bits."""
    state, first, second = configuration
    row = machine.row(state)
    if row is None:
        return None
    stacks = [list(first) + [0] * 100, list(second) + [0] * 100]
    word, stack, third, state = row
    if word == "push":
        stacks[stack].insert(0, third)
    else:
        state = (third, state)[stacks[stack].pop(0)]
    for bits in stacks:
        while bits and bits[-1] == 0:
            bits.pop()
    return state, tuple(stacks[0]), tuple(stacks[1])


class MakingTest(unittest.TestCase):
    def refused(self, rows):
        with self.assertRaises(BadMachine):
            Stacks(rows)

    def test_number_of_rows(self):
        self.refused([])
        self.assertEqual(Stacks([None]).states, 1)
        self.assertEqual(MOVES_ONES.states, 3)
        self.assertEqual(Stacks([None] * 5000).states, 5000)
        self.refused([None] * 5001)
        self.assertEqual(Stacks([("push", 0, 0, 4999), ("pop", 1, 4999, 4999)] * 2500).states, 5000)
        self.refused([("push", 0, 0, 0)] * 5001)
        self.refused([("push", 0, 0, 0)] * 20000)

    def test_no_list(self):
        for rows in (None, 3, (None,), {0: None}, "None", ()):
            self.refused(rows)

    def test_rows_of_another_form(self):
        wrong = [
            ["push", 0, 0, 0], ["pop", 0, 0, 0], (), 0, True, False, "push", "", {}, b"push",
            ("push",), ("push", 0), ("push", 0, 0), ("push", 0, 0, 0, 0), ("pop", 0, 0), ("pop", 0, 0, 0, 0),
            ("Push", 0, 0, 0), ("POP", 0, 0, 0), ("inc", 0, 0, 0), ("", 0, 0, 0), ("pushpop", 0, 0, 0),
            (None, 0, 0, 0), (0, 0, 0, 0), (b"pop", 0, 0, 0), (b"push", 0, 0, 0), ("dec", 0, 0, 0),
            ("push", 2, 0, 0), ("push", -1, 0, 0), ("pop", 2, 0, 0), ("pop", -1, 0, 0),
            ("push", 0, 2, 0), ("push", 0, -1, 0), ("push", 0, 0, 3), ("push", 0, 0, -1),
            ("pop", 0, 3, 0), ("pop", 0, -1, 0), ("pop", 0, 0, 3), ("pop", 0, 0, -1),
        ]
        for value in NO_NUMBERS:
            for word in ("push", "pop"):
                wrong += [(word, value, 0, 0), (word, 0, value, 0), (word, 0, 0, value)]
        for row in wrong:
            self.refused([row, None, None])
            self.refused([None, None, row])
            self.refused(ROWS[:2] + [row])

    def test_numbers_that_only_one_word_takes(self):
        # A pop names a state where a push names a bit.
        self.assertEqual(Stacks([None, None, ("pop", 0, 2, 0)]).row(2), ("pop", 0, 2, 0))
        self.refused([None, None, ("push", 0, 2, 0)])
        self.refused([("pop", 0, 1, 0)])
        self.assertEqual(Stacks([("push", 0, 1, 0)]).row(0), ("push", 0, 1, 0))

    def test_the_list_is_copied(self):
        rows = list(ROWS)
        machine = Stacks(rows)
        rows[0] = None
        rows.append(None)
        self.assertEqual(machine.states, 3)
        self.assertEqual(machine.table(), ROWS)
        self.assertEqual(machine.row(0), ("pop", 0, 0, 1))
        self.assertEqual(machine.step((0, (1,), ())), (1, (), ()))
        self.assertEqual(rows, [None] + ROWS[1:] + [None])


class TableTest(unittest.TestCase):
    def test_row(self):
        self.assertEqual([MOVES_ONES.row(state) for state in range(3)], ROWS)

    def test_no_such_state(self):
        for state in (-1, 3, 4, 10 ** 30) + NO_NUMBERS:
            with self.assertRaises(BadMachine):
                MOVES_ONES.row(state)

    def test_table_is_new(self):
        table = MOVES_ONES.table()
        self.assertEqual(table, ROWS)
        self.assertIsInstance(table, list)
        table.clear()
        self.assertEqual(MOVES_ONES.table(), ROWS)
        self.assertEqual(MOVES_ONES.row(2), None)


class StepTest(unittest.TestCase):
    def test_push(self):
        for other in ((), (1,), (0, 0, 1)):
            for bit in (0, 1):
                for stack in ((1,), (0, 1), (1, 1, 0, 1)):
                    self.assertEqual(one_push(0, bit).step((0, stack, other)), (1, (bit,) + stack, other))
                    self.assertEqual(one_push(1, bit).step((0, other, stack)), (1, other, (bit,) + stack))
            self.assertEqual(one_push(0, 1).step((0, (), other)), (1, (1,), other))
            self.assertEqual(one_push(1, 1).step((0, other, ())), (1, other, (1,)))

    def test_push_of_0_on_the_empty_stack(self):
        for other in ((), (1,), (0, 1)):
            self.assertEqual(one_push(0, 0).step((0, (), other)), (1, (), other))
            self.assertEqual(one_push(1, 0).step((0, other, ())), (1, other, ()))

    def test_pop(self):
        for other in ((), (1,), (0, 0, 1)):
            for stack in ((0, 1), (1, 1), (0, 0, 1), (1, 0, 1), (1,)):
                after = 1 + stack[0]
                self.assertEqual(one_pop(0).step((0, stack, other)), (after, stack[1:], other))
                self.assertEqual(one_pop(1).step((0, other, stack)), (after, other, stack[1:]))

    def test_pop_from_the_empty_stack(self):
        for other in ((), (1,), (0, 1)):
            self.assertEqual(one_pop(0).step((0, (), other)), (1, (), other))
            self.assertEqual(one_pop(1).step((0, other, ())), (1, other, ()))

    def test_stopped(self):
        for stacks in (((), ()), ((1,), (0, 1))):
            self.assertIsNone(MOVES_ONES.step((2,) + stacks))
            self.assertIs(MOVES_ONES.stopped((2,) + stacks), True)
            self.assertIs(MOVES_ONES.stopped((0,) + stacks), False)
            self.assertIs(MOVES_ONES.stopped((1,) + stacks), False)

    def test_random_machines(self):
        random = Random(31)
        for _ in range(100):
            machine = random_stacks(random, random.randrange(1, 8))
            configuration = (0, random_side(random, 2), random_side(random, 2))
            for _ in range(20):
                after = plain_step(machine, configuration)
                self.assertEqual(machine.step(configuration), after)
                if after is None:
                    break
                configuration = after


class RunTest(unittest.TestCase):
    def test_run(self):
        random = Random(32)
        for _ in range(40):
            machine = random_stacks(random, random.randrange(1, 8))
            configuration = (0, random_side(random, 2), random_side(random, 2))
            check_step_and_run(self, machine, configuration, 12)

    def test_the_example(self):
        self.assertEqual(MOVES_ONES.run((0, (1, 1), ()), 1), ((1, (1,), ()), 1))
        self.assertEqual(MOVES_ONES.run((0, (1, 1), ()), 2), ((0, (1,), (1,)), 2))
        self.assertEqual(MOVES_ONES.run((0, (1, 1), ()), 4), ((0, (), (1, 1)), 4))
        self.assertEqual(MOVES_ONES.run((0, (1, 1), ()), 100), ((0, (), (1, 1)), 100))

    def test_no_steps(self):
        for configuration in ((0, (1,), ()), (1, (), ()), (2, (0, 1), (1,))):
            self.assertEqual(MOVES_ONES.run(configuration, 0), (configuration, 0))

    def test_past_the_stop(self):
        machine = Stacks([("push", 0, 1, 1), ("push", 1, 0, 2), ("pop", 0, 0, 3), None])
        self.assertEqual(machine.run((0, (), ()), 3), ((3, (), ()), 3))
        self.assertEqual(machine.run((0, (), ()), 4), ((3, (), ()), 3))
        self.assertEqual(machine.run((0, (), (1,)), 10 ** 12), ((3, (), (0, 1)), 3))
        self.assertEqual(machine.run((3, (1,), ()), 10 ** 12), ((3, (1,), ()), 0))

    def test_long_stacks(self):
        machine = Stacks([("push", 0, 1, 0)])
        self.assertEqual(machine.run((0, (), ()), 20000), ((0, (1,) * 20000, ()), 20000))
        machine = Stacks([("pop", 1, 1, 0), None])
        self.assertEqual(machine.run((0, (), (1,) * 20000), 30000), ((1, (), ()), 20001))


if __name__ == "__main__":
    unittest.main()
