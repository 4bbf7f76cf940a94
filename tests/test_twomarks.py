"""The stair to two marks: [2.1] to [2.9], and [0.5], [0.6] for it."""

import unittest
from random import Random

from stepdown.errors import BadMachine
from stepdown.tape import Tape
from stepdown.twomarks import TwoMarks, block, mark_of, width
from tests.samples import (
    ADD_ONE, NO_NUMBERS, check_promise, random_tape, sample_configurations, sample_tapes,
)

EXAMPLE = Tape(3, 1, [None, (2, 1, 0), (1, -1, 0)])


def digits(value, size):
    """The value as a tuple of bits, written by Python."""
    return tuple(int(bit) for bit in bin(value)[2:].zfill(size))[:size] if size else ()


def value_of(bits):
    return int("0" + "".join(str(bit) for bit in bits), 2)


def prefixes(size):
    return [digits(value, size) for value in range(2 ** size)]


def expected_rows(machine):
    """A dict of the rows that [2.3] and [2.4] tell, by the numbers that they tell."""
    s = machine.states
    w = {2: 1, 3: 2, 4: 2}.get(machine.marks, 3 if machine.marks <= 8 else 4)

    def read(q, p):
        return s * (2 ** len(p) - 1) + q * 2 ** len(p) + value_of(p)

    def write(q, move, p):
        side = {-1: 0, 1: 1}[move]
        i = len(p)
        return s * (2 ** w - 1) + 2 * s * (2 ** i - 2) + (2 * q + side) * 2 ** i + value_of(p)

    def go(q, move, k):
        side = {-1: 0, 1: 1}[move]
        return s * (2 ** w - 1) + 2 * s * (2 ** w - 2) + 2 * s * (k - 1) + 2 * q + side

    rows = {}
    for q in range(s):
        for i in range(w):
            for p in prefixes(i):
                for c in (0, 1):
                    rows[read(q, p), c] = None
                    if i < w - 1:
                        rows[read(q, p), c] = (c, 1, read(q, p + (c,)))
                        continue
                    a = value_of(p + (c,))
                    row = machine.row(q, a) if a < machine.marks else None
                    if row is not None:
                        written, move, target = row
                        *g, d = digits(written, w)
                        if w == 1:
                            rows[read(q, p), c] = (d, move, read(target, ()))
                        else:
                            rows[read(q, p), c] = (d, -1, write(target, move, tuple(g)))
        for move in (-1, 1):
            for i in range(1, w):
                for p in prefixes(i):
                    for c in (0, 1):
                        after = (-1, write(q, move, p[:-1])) if i > 1 else (move, go(q, move, w - 1))
                        rows[write(q, move, p), c] = (p[-1],) + after
            for k in range(1, w):
                for c in (0, 1):
                    rows[go(q, move, k), c] = (c, move, go(q, move, k - 1) if k > 1 else read(q, ()))
    return rows


class BlockTest(unittest.TestCase):
    def test_width(self):
        expected = {2: 1, 3: 2, 4: 2, 5: 3, 8: 3, 9: 4, 16: 4}
        for marks, bits in expected.items():
            self.assertEqual(width(marks), bits)
        for marks in range(2, 17):
            bits = width(marks)
            self.assertGreaterEqual(2 ** bits, marks)
            self.assertTrue(bits == 1 or 2 ** (bits - 1) < marks)

    def test_block_and_mark(self):
        for marks in range(2, 17):
            size = width(marks)
            for value in range(2 ** size):
                bits = digits(value, size)
                if value < marks:
                    self.assertEqual(block(marks, value), bits)
                    self.assertEqual(mark_of(marks, bits), value)
                else:
                    self.assertIsNone(mark_of(marks, bits))
        self.assertEqual(block(9, 6), (0, 1, 1, 0))
        self.assertEqual(block(16, 8), (1, 0, 0, 0))
        self.assertIsNone(mark_of(3, (1, 1)))

    def test_no_block(self):
        for bits in ((), (1,), (0, 1, 1), (0, 0, 0, 1), (0, 2), (2, 0), (-1, 1), (1, -1), (0, 3)):
            self.assertIsNone(mark_of(3, bits), bits)
        for value in NO_NUMBERS:
            self.assertIsNone(mark_of(4, (0, value)))
            self.assertIsNone(mark_of(4, (value, 1)))
        self.assertIsNone(mark_of(2, ()))
        self.assertIsNone(mark_of(2, (0, 0)))


class LowerTest(unittest.TestCase):
    def test_all_rows(self):
        random = Random(4)
        for marks in (2, 3, 4, 5, 6, 7, 8, 9, 12, 16):
            for states in (1, 2, 3, 5):
                machine = random_tape(random, marks, states)
                lower = TwoMarks(machine).lower
                rows = expected_rows(machine)
                self.assertIsInstance(lower, Tape)
                self.assertEqual(lower.marks, 2)
                self.assertEqual(lower.states * 2, len(rows))
                for (state, bit), row in rows.items():
                    self.assertEqual(lower.row(state, bit), row, (marks, states, state, bit))

    def test_number_of_states(self):
        for marks, each in ((2, 1), (3, 9), (4, 9), (5, 23), (8, 23), (9, 49), (16, 49)):
            for states in (1, 4):
                stair = TwoMarks(Tape(marks, states, [None] * (marks * states)))
                self.assertEqual(stair.lower.states, each * states)

    def test_the_greatest_number_of_states(self):
        for marks, most in ((2, 4000), (3, 444), (4, 444), (5, 173), (8, 173), (9, 81), (16, 81)):
            row = (1, 1, most - 1)
            stair = TwoMarks(Tape(marks, most, [row] * (marks * most)))
            self.assertLessEqual(stair.lower.states, 4000)
            if most < 4000:
                machine = Tape(marks, most + 1, [row] * (marks * (most + 1)))
                with self.assertRaises(BadMachine):
                    TwoMarks(machine)
        with self.assertRaises(BadMachine):
            TwoMarks(Tape(16, 4000, [None] * 64000))

    def test_two_marks_keep_their_rows(self):
        for machine in sample_tapes():
            if machine.marks == 2:
                lower = TwoMarks(machine).lower
                self.assertEqual((lower.marks, lower.states), (2, machine.states))
                self.assertEqual(lower.table(), machine.table())

    def test_upper(self):
        stair = TwoMarks(EXAMPLE)
        self.assertIs(stair.upper, EXAMPLE)
        self.assertEqual(EXAMPLE.table(), [None, (2, 1, 0), (1, -1, 0)])


class DownAndUpTest(unittest.TestCase):
    def test_down(self):
        stair = TwoMarks(Tape(5, 2, [None] * 10))
        self.assertEqual(stair.down((0, (), 0, ())), (0, (), 0, ()))
        self.assertEqual(stair.down((1, (), 4, ())), (1, (), 1, ()))
        self.assertEqual(stair.down((1, (), 3, ())), (1, (), 0, (1, 1)))
        self.assertEqual(stair.down((0, (1, 4), 2, (3, 4))), (0, (1, 0, 0, 0, 0, 1), 0, (1, 0, 0, 1, 1, 1)))
        self.assertEqual(stair.down((0, (0, 3), 0, (0, 2))), (0, (0, 0, 0, 1, 1), 0, (0, 0, 0, 0, 0, 0, 1)))

    def test_up_of_what_belongs(self):
        for machine in sample_tapes():
            stair = TwoMarks(machine)
            for configuration in sample_configurations(machine):
                lower = stair.down(configuration)
                self.assertTrue(stair.lower.is_configuration(lower))
                self.assertEqual(stair.up(lower), configuration)

    def test_up_of_what_means_nothing(self):
        stair = TwoMarks(EXAMPLE)
        self.assertIsNone(stair.up((1, (), 0, ())))
        self.assertIsNone(stair.up((8, (), 0, ())))
        self.assertIsNone(stair.up((0, (), 1, (1,))))
        self.assertIsNone(stair.up((0, (1, 1), 0, ())))
        self.assertIsNone(stair.up((0, (), 0, (0, 1, 1))))
        self.assertIsNone(stair.up((0, (0, 0, 1, 1), 0, ())))
        self.assertIsNone(stair.up((0, (0, 1, 1, 1), 0, ())))
        self.assertIsNone(stair.up((0, (), 0, (0, 1, 0, 1, 1))))
        self.assertEqual(stair.up((0, (1,), 1, ())), (0, (1,), 2, ()))
        self.assertEqual(stair.up((0, (0, 1, 1), 0, (1, 0, 1))), (0, (2, 1), 1, (1,)))
        self.assertEqual(stair.up((0, (), 0, (1, 1))), (0, (), 1, (2,)))

    def test_up_is_the_other_way_round_everywhere(self):
        sides = [()] + [bits + (1,) for size in range(5) for bits in prefixes(size)]
        for marks in (2, 3, 5):
            stair = TwoMarks(random_tape(Random(marks), marks, 2))
            for state in range(4):
                for left in sides:
                    for right in sides:
                        for bit in (0, 1):
                            lower = (state, left, bit, right)
                            upper = stair.up(lower)
                            if upper is not None:
                                self.assertTrue(stair.upper.is_configuration(upper))
                                self.assertEqual(stair.down(upper), lower)

    def test_up_finds_all(self):
        stair = TwoMarks(Tape(3, 2, [None] * 6))
        found = set()
        sides = [()] + [bits + (1,) for size in range(4) for bits in prefixes(size)]
        for left in sides:
            for right in sides:
                for bit in (0, 1):
                    found.add(stair.up((0, left, bit, right)))
        marks = [(), (1,), (2,), (0, 1), (0, 2), (1, 1), (1, 2), (2, 1), (2, 2)]
        for left in marks:
            for right in ((), (1,), (2,)):
                for mark in range(3):
                    self.assertIn((0, left, mark, right), found)


class PaceTest(unittest.TestCase):
    def test_pace_and_ending(self):
        for marks, pace, ending in ((2, 1, 0), (3, 4, 1), (4, 4, 1), (5, 7, 2), (8, 7, 2), (9, 10, 3), (16, 10, 3)):
            rows = [None, (1, -1, 0)] * marks
            stair = TwoMarks(Tape(marks, 1, rows[:marks]))
            self.assertEqual(stair.pace((0, (1,), 1, ())), pace)
            self.assertEqual(stair.ending((0, (1,), 1, ())), 0)
            self.assertEqual(stair.pace((0, (1,), 0, ())), 0)
            self.assertEqual(stair.ending((0, (1,), 0, ())), ending)

    def test_the_promise(self):
        for machine in sample_tapes():
            stair = TwoMarks(machine)
            for configuration in sample_configurations(machine):
                check_promise(self, stair, configuration, 12)

    def test_the_example(self):
        stair = TwoMarks(EXAMPLE)
        self.assertEqual(stair.lower.states, 9)
        self.assertEqual(stair.down((0, (), 1, (2,))), (0, (), 0, (1, 1)))
        self.assertEqual(stair.lower.run((0, (), 0, (1, 1)), 4), ((0, (0, 1), 1, ()), 4))
        self.assertEqual(stair.up((0, (0, 1), 1, ())), (0, (2,), 2, ()))
        self.assertEqual(EXAMPLE.step((0, (), 1, (2,))), (0, (2,), 2, ()))

    def test_a_long_run(self):
        stair = TwoMarks(ADD_ONE)
        lower = stair.down(ADD_ONE.begin((1,) * 50))
        self.assertEqual(stair.lower.run(lower, 1000)[1], 51)


if __name__ == "__main__":
    unittest.main()
