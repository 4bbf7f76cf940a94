"""The stair from counters up to tapes: [7.2] to [7.7], and [0.5], [0.6] for it."""

import unittest
from random import Random

from stepdown.counters import Counters
from stepdown.errors import BadMachine
from stepdown.tape import Tape
from stepdown.upstair import UpStair
from tests.samples import check_promise, check_promise_once, random_counters

EXAMPLE = Counters(1, [("inc", 0, 1), ("dec", 0, 0, 2), None])


def sample_counters():
    """Counter machines with one, two and three counters."""
    random = Random(121)
    machines = [EXAMPLE, Counters(2, [("dec", 0, 1, 2), ("inc", 1, 0), None])]
    return machines + [random_counters(random, count, states) for count in (1, 2, 3) for states in (1, 2, 3, 5, 8)]


def expected_row(machine, state, v):
    """The row that [7.3] tells."""
    q, part = divmod(state, 4)
    O = 2 ** machine.count
    row = machine.row(q)
    if part == 0:
        if v != O:
            return (v, -1, 4 * q)
        return None if row is None else (O, 1, 4 * q + 1)
    if row is None or v >= O:
        return None
    i = row[1]
    has = v // 2 ** i % 2 == 1
    if row[0] == "inc":
        if part == 1:
            return (v, 1, 4 * q + 1) if has else (v + 2 ** i, -1, 4 * row[2])
        return None
    if part == 1:
        return (v, 1, 4 * q + 2) if has else (v, -1, 4 * row[3])
    if part == 2:
        return (v, 1, 4 * q + 2) if has else (v, -1, 4 * q + 3)
    return (v - 2 ** i, -1, 4 * row[2]) if has else None


class LowerTest(unittest.TestCase):
    def check(self, machine):
        stair = UpStair(machine)
        self.assertIs(stair.upper, machine)
        self.assertIsInstance(stair.lower, Tape)
        self.assertEqual(stair.lower.marks, 2 ** (machine.count + 1))
        self.assertEqual(stair.lower.states, 4 * machine.states)
        expected = [
            expected_row(machine, state, v) for state in range(4 * machine.states) for v in range(stair.lower.marks)
        ]
        self.assertEqual(stair.lower.table(), expected)

    def test_all_rows(self):
        for machine in sample_counters():
            self.check(machine)

    def test_each_row_on_each_counter(self):
        for count in (1, 2, 3):
            for i in range(count):
                self.check(Counters(count, [("inc", i, 2), ("dec", i, 0, 2), None]))
                self.check(Counters(count, [("inc", i, 0), ("dec", i, 1, 1)]))

    def test_one_machine(self):
        table = UpStair(EXAMPLE).lower.table()
        self.assertEqual(table[:16], [
            (0, -1, 0), (1, -1, 0), (2, 1, 1), (3, -1, 0), (1, -1, 4), (1, 1, 1), None, None,
            None, None, None, None, None, None, None, None,
        ])
        self.assertEqual(table[16:32], [
            (0, -1, 4), (1, -1, 4), (2, 1, 5), (3, -1, 4), (0, -1, 8), (1, 1, 6), None, None,
            (0, -1, 7), (1, 1, 6), None, None, None, (0, -1, 0), None, None,
        ])
        self.assertEqual(table[32:], [(0, -1, 8), (1, -1, 8), None, (3, -1, 8)] + [None] * 12)

    def test_number_of_counters(self):
        for row in (None, ("inc", 0, 0), ("dec", 3, 0, 0)):
            with self.assertRaises(BadMachine):
                UpStair(Counters(4, [row]))
        self.assertEqual(UpStair(Counters(3, [None])).lower.marks, 16)

    def test_number_of_states(self):
        stair = UpStair(Counters(1, [("dec", 0, 999, 0), ("inc", 0, 999)] * 500))
        self.assertEqual(stair.lower.states, 4000)
        self.assertEqual(stair.lower.row(3999, 0), None)
        self.assertEqual(stair.lower.row(3997, 0), (1, -1, 3996))
        for states in (1001, 1002, 40000):
            with self.assertRaises(BadMachine):
                UpStair(Counters(1, [None] * states))


class DownAndUpTest(unittest.TestCase):
    one = UpStair(EXAMPLE)
    three = UpStair(Counters(3, [None, None]))

    def test_down(self):
        self.assertEqual(self.one.down((0, (0,))), (0, (), 2, ()))
        self.assertEqual(self.one.down((2, (3,))), (8, (), 2, (1, 1, 1)))
        self.assertEqual(self.three.down((1, (0, 0, 0))), (4, (), 8, ()))
        self.assertEqual(self.three.down((0, (1, 3, 2))), (0, (), 8, (7, 6, 2)))
        self.assertEqual(self.three.down((1, (0, 0, 2))), (4, (), 8, (4, 4)))
        self.assertEqual(self.three.down((0, (2, 0, 0))), (0, (), 8, (1, 1)))

    def test_up(self):
        self.assertEqual(self.one.up((0, (), 2, ())), (0, (0,)))
        self.assertEqual(self.one.up((8, (), 2, (1, 1, 1))), (2, (3,)))
        self.assertEqual(self.three.up((4, (), 8, ())), (1, (0, 0, 0)))
        self.assertEqual(self.three.up((0, (), 8, (7, 6, 2))), (0, (1, 3, 2)))

    def test_another_state(self):
        for state in range(12):
            for right in ((), (1,), (1, 1)):
                self.assertIs(self.one.up((state, (), 2, right)) is None, state % 4 != 0)

    def test_a_mark_to_the_left(self):
        for left in ((1,), (2,), (3,), (0, 1), (0, 0, 2)):
            self.assertIsNone(self.one.up((0, left, 2, ())))
            self.assertIsNone(self.one.up((4, left, 2, (1, 1))))

    def test_another_mark_under_the_head(self):
        for mark in (0, 1, 3):
            self.assertIsNone(self.one.up((0, (), mark, ())))
            self.assertIsNone(self.one.up((0, (), mark, (1,))))
        for mark in range(16):
            self.assertIs(self.three.up((0, (), mark, (7, 6, 2))) is None, mark != 8)

    def test_bits_with_gaps(self):
        for right in ((0, 1), (1, 0, 1), (0, 0, 1), (1, 1, 0, 1)):
            self.assertIsNone(self.one.up((0, (), 2, right)))
        for right in ((1, 2), (6, 7), (7, 2, 4), (4, 0, 4), (1, 3), (7, 6, 3), (0, 7)):
            self.assertIsNone(self.three.up((0, (), 8, right)))

    def test_marks_that_show_no_counters(self):
        for right in ((2,), (3,), (1, 2), (1, 3), (3, 1), (2, 1)):
            self.assertIsNone(self.one.up((0, (), 2, right)))
        for mark in range(8, 16):
            self.assertIsNone(self.three.up((0, (), 8, (mark,))))
            self.assertIsNone(self.three.up((0, (), 8, (7, mark))))

    def test_values_that_are_no_configurations(self):
        for value in ((0, (), 2, (4,)), (0, (), 2, (1, 0)), (12, (), 2, ()), (-4, (), 2, ()), (0, (), 2, (None,))):
            self.assertIsNone(self.one.up(value))

    def test_all_short_tapes(self):
        stair = UpStair(Counters(2, [None]))
        belongs = {stair.down((0, (a, b))): (0, (a, b)) for a in range(4) for b in range(4)}
        sides = [()]
        for _ in range(3):
            sides += [side + (mark,) for side in sides for mark in range(8)]
        for right in set(sides):
            if len(right) == 0 or right[-1] != 0:
                self.assertEqual(stair.up((0, (), 4, right)), belongs.get((0, (), 4, right)))


class PromiseTest(unittest.TestCase):
    def test_pace_and_ending(self):
        stair = UpStair(Counters(2, [("inc", 0, 1), ("dec", 1, 0, 2), None]))
        for a in (0, 1, 5, 1000):
            for b in (0, 1, 7):
                self.assertEqual(stair.pace((0, (a, b))), 2 * a + 2)
                self.assertEqual(stair.pace((1, (a, b))), 2 * b + 2)
                self.assertEqual(stair.pace((2, (a, b))), 0)
                self.assertEqual([stair.ending((state, (a, b))) for state in range(3)], [0, 0, 0])

    def test_the_promise(self):
        random = Random(122)
        for machine in sample_counters():
            stair = UpStair(machine)
            for most in (0, 1, 3, 9):
                for state in range(machine.states):
                    counters = tuple(random.randrange(most + 1) for _ in range(machine.count))
                    self.assertTrue(stair.lower.is_configuration(stair.down((state, counters))))
                    check_promise(self, stair, (state, counters), 12)

    def test_each_row_with_all_small_counters(self):
        for i in (0, 1):
            stair = UpStair(Counters(2, [("inc", i, 0), ("dec", i, 0, 1), ("inc", i, 2), ("dec", i, 1, 3)]))
            for state in range(4):
                for a in range(5):
                    for b in range(5):
                        self.assertIs(check_promise_once(self, stair, (state, (a, b))), True)

    def test_where_the_machine_has_stopped(self):
        stair = UpStair(Counters(2, [("inc", 0, 1), None]))
        for counters in ((0, 0), (3, 1), (0, 4)):
            self.assertIs(check_promise_once(self, stair, (1, counters)), False)
            lower = stair.down((1, counters))
            self.assertEqual(stair.lower.run(lower, 100), (lower, 0))

    def test_a_great_counter(self):
        stair = UpStair(EXAMPLE)
        upper = (1, (2000,))
        after, taken = stair.lower.run(stair.down(upper), stair.pace(upper))
        self.assertEqual((stair.up(after), taken), ((0, (1999,)), 4002))


class ExampleTest(unittest.TestCase):
    def test_counting_up(self):
        stair = UpStair(EXAMPLE)
        self.assertEqual(stair.lower.marks, 4)
        self.assertEqual(stair.down((0, (2,))), (0, (), 2, (1, 1)))
        self.assertEqual(stair.pace((0, (2,))), 6)
        self.assertEqual(stair.lower.run((0, (), 2, (1, 1)), 6), ((4, (), 2, (1, 1, 1)), 6))


if __name__ == "__main__":
    unittest.main()
