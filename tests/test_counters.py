"""Counter machines and the numbers of stacks: [5.6] to [5.8], and [0.4], [0.7] for them."""

import unittest
from random import Random

from stepdown.counters import Counters, stack_of, value
from stepdown.errors import BadMachine
from tests.samples import NO_NUMBERS, check_step_and_run, random_counters

ROWS = [("dec", 0, 1, 2), ("inc", 1, 0), None]
# Adds counter 0 to counter 1.
ADDS = Counters(2, ROWS)


def plain_step(machine, configuration):
    """What [5.6] says."""
    state, counters = configuration
    row = machine.row(state)
    if row is None:
        return None
    if row[0] == "inc":
        return row[2], tuple(held + (at == row[1]) for at, held in enumerate(counters))
    if counters[row[1]] == 0:
        return row[3], counters
    return row[2], tuple(held - (at == row[1]) for at, held in enumerate(counters))


class MakingTest(unittest.TestCase):
    def refused(self, count, rows):
        with self.assertRaises(BadMachine):
            Counters(count, rows)

    def test_number_of_counters(self):
        for count in (1, 2, 3, 4):
            self.assertEqual(Counters(count, [None]).count, count)
            self.assertEqual(Counters(count, [("inc", count - 1, 0)]).row(0), ("inc", count - 1, 0))
            self.refused(count, [("inc", count, 0)])
            self.refused(count, [("dec", count, 0, 0)])
        for count in (0, 5, -1, 10 ** 30) + NO_NUMBERS:
            self.refused(count, [None])

    def test_number_of_rows(self):
        self.refused(1, [])
        self.assertEqual(ADDS.states, 3)
        self.assertEqual(ADDS.count, 2)
        self.assertEqual(Counters(1, [None] * 40000).states, 40000)
        self.refused(1, [None] * 40001)
        self.assertEqual(Counters(4, [("inc", 3, 39999), ("dec", 3, 39999, 39999)] * 20000).states, 40000)
        self.refused(1, [("inc", 0, 0)] * 40001)

    def test_no_list(self):
        for rows in (None, 3, (None,), {0: None}, "None", ()):
            self.refused(1, rows)

    def test_rows_of_another_form(self):
        wrong = [
            ["inc", 0, 0], ["dec", 0, 0, 0], (), 0, True, False, "inc", "", {}, b"inc",
            ("inc",), ("inc", 0), ("inc", 0, 0, 0), ("inc", 0, 0, 0, 0), ("dec", 0), ("dec", 0, 0), ("dec", 0, 0, 0, 0),
            ("Inc", 0, 0), ("DEC", 0, 0, 0), ("push", 0, 0), ("pop", 0, 0, 0), ("", 0, 0), ("incdec", 0, 0, 0),
            (None, 0, 0), (0, 0, 0), (0, 0, 0, 0), (b"inc", 0, 0), (b"dec", 0, 0, 0),
            ("inc", 2, 0), ("inc", -1, 0), ("dec", 2, 0, 0), ("dec", -1, 0, 0),
            ("inc", 0, 3), ("inc", 0, -1), ("dec", 0, 3, 0), ("dec", 0, -1, 0), ("dec", 0, 0, 3), ("dec", 0, 0, -1),
        ]
        for number in NO_NUMBERS:
            wrong += [("inc", number, 0), ("inc", 0, number)]
            wrong += [("dec", number, 0, 0), ("dec", 0, number, 0), ("dec", 0, 0, number)]
        for row in wrong:
            self.refused(2, [row, None, None])
            self.refused(2, [None, None, row])
            self.refused(2, ROWS[:2] + [row])

    def test_the_list_is_copied(self):
        rows = list(ROWS)
        machine = Counters(2, rows)
        rows[0] = None
        rows.append(None)
        self.assertEqual(machine.states, 3)
        self.assertEqual(machine.table(), ROWS)
        self.assertEqual(machine.row(0), ("dec", 0, 1, 2))
        self.assertEqual(machine.step((0, (1, 0))), (1, (0, 0)))
        self.assertEqual(rows, [None] + ROWS[1:] + [None])


class TableTest(unittest.TestCase):
    def test_row(self):
        self.assertEqual([ADDS.row(state) for state in range(3)], ROWS)

    def test_no_such_state(self):
        for state in (-1, 3, 4, 10 ** 30) + NO_NUMBERS:
            with self.assertRaises(BadMachine):
                ADDS.row(state)

    def test_table_is_new(self):
        table = ADDS.table()
        self.assertEqual(table, ROWS)
        self.assertIsInstance(table, list)
        table.clear()
        self.assertEqual(ADDS.table(), ROWS)


class StepTest(unittest.TestCase):
    def test_inc(self):
        for count in (1, 2, 3, 4):
            for counter in range(count):
                machine = Counters(count, [("inc", counter, 1), None])
                for held in (0, 1, 7, 10 ** 40):
                    before = [3] * count
                    before[counter] = held
                    after = list(before)
                    after[counter] = held + 1
                    self.assertEqual(machine.step((0, tuple(before))), (1, tuple(after)))

    def test_dec(self):
        for count in (1, 2, 3, 4):
            for counter in range(count):
                machine = Counters(count, [("dec", counter, 1, 2), None, None])
                for held in (0, 1, 2, 10 ** 40):
                    before = [3] * count
                    before[counter] = held
                    after = list(before)
                    after[counter] = max(0, held - 1)
                    self.assertEqual(machine.step((0, tuple(before))), (1 if held else 2, tuple(after)))

    def test_stopped(self):
        for counters in ((0, 0), (5, 10 ** 40)):
            self.assertIsNone(ADDS.step((2, counters)))
            self.assertIs(ADDS.stopped((2, counters)), True)
            self.assertIs(ADDS.stopped((0, counters)), False)
            self.assertIs(ADDS.stopped((1, counters)), False)

    def test_random_machines(self):
        random = Random(51)
        for _ in range(100):
            machine = random_counters(random, random.randrange(1, 5), random.randrange(1, 8))
            configuration = (0, tuple(random.randrange(4) for _ in range(machine.count)))
            for _ in range(20):
                after = plain_step(machine, configuration)
                self.assertEqual(machine.step(configuration), after)
                if after is None:
                    break
                configuration = after


class RunTest(unittest.TestCase):
    def test_run(self):
        random = Random(52)
        for _ in range(40):
            machine = random_counters(random, random.randrange(1, 5), random.randrange(1, 8))
            configuration = (0, tuple(random.randrange(4) for _ in range(machine.count)))
            check_step_and_run(self, machine, configuration, 12)

    def test_adding(self):
        self.assertEqual(ADDS.run((0, (2, 1)), 1), ((1, (1, 1)), 1))
        self.assertEqual(ADDS.run((0, (2, 1)), 4), ((0, (0, 3)), 4))
        self.assertEqual(ADDS.run((0, (2, 1)), 5), ((2, (0, 3)), 5))

    def test_no_steps(self):
        for configuration in ((0, (2, 1)), (1, (0, 0)), (2, (5, 0))):
            self.assertEqual(ADDS.run(configuration, 0), (configuration, 0))

    def test_past_the_stop(self):
        self.assertEqual(ADDS.run((0, (2, 1)), 6), ((2, (0, 3)), 5))
        self.assertEqual(ADDS.run((0, (2, 1)), 10 ** 12), ((2, (0, 3)), 5))
        self.assertEqual(ADDS.run((2, (2, 1)), 10 ** 12), ((2, (2, 1)), 0))

    def test_great_numbers(self):
        great = 10 ** 3000
        self.assertEqual(ADDS.run((0, (great, great)), 4), ((0, (great - 2, great + 2)), 4))


class NumberTest(unittest.TestCase):
    def test_value(self):
        self.assertEqual(value(()), 0)
        self.assertEqual(value((1,)), 1)
        self.assertEqual(value((0, 1)), 2)
        self.assertEqual(value((1, 1)), 3)
        self.assertEqual(value((1, 0, 0, 1)), 9)
        self.assertEqual(value((0, 1, 1)), 6)

    def test_stack_of(self):
        self.assertEqual(stack_of(0), ())
        self.assertEqual(stack_of(1), (1,))
        self.assertEqual(stack_of(2), (0, 1))
        self.assertEqual(stack_of(9), (1, 0, 0, 1))
        self.assertEqual(stack_of(6), (0, 1, 1))

    def test_each_is_the_way_back_of_the_other(self):
        for number in range(300):
            stack = stack_of(number)
            self.assertIsInstance(stack, tuple)
            self.assertEqual(value(stack), number)
            self.assertEqual(value(stack), sum(bit * 2 ** at for at, bit in enumerate(stack)))
            self.assertTrue(stack == () or stack[-1] == 1)
            self.assertTrue(all(bit in (0, 1) for bit in stack))
        random = Random(53)
        for bits in (50, 64, 1000, 20000):
            stack = tuple(random.randrange(2) for _ in range(bits)) + (1,)
            self.assertEqual(stack_of(value(stack)), stack)
            self.assertEqual(value(stack).bit_length(), bits + 1)
            self.assertEqual(value((0,) * bits + (1,)), 1 << bits)
            self.assertEqual(stack_of(1 << bits), (0,) * bits + (1,))

    def test_pushing_and_popping(self):
        for number in (0, 1, 2, 5, 12, 10 ** 50, 10 ** 50 + 1):
            stack = stack_of(number)
            self.assertEqual(value((1,) + stack), 2 * number + 1)
            self.assertEqual(value((0,) + stack), 2 * number)
            self.assertEqual(value(stack[1:]), number // 2)


if __name__ == "__main__":
    unittest.main()
