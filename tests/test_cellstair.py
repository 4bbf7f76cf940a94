"""The stair from tapes to cells: [3.7] to [3.11], and [0.5], [0.6] for it."""

import unittest
from random import Random

from stepdown.cells import Cells
from stepdown.cellstair import CellStair
from stepdown.errors import BadCells
from stepdown.tape import Tape
from tests.samples import (
    ADD_ONE, BEAVER, check_promise, random_configuration, random_tape, sample_configurations, sample_tapes,
)


def expected_changes(machine):
    """The changes that [3.8] tells."""
    m = machine.marks
    changes = {}
    for q in range(machine.states):
        for a in range(m):
            row = machine.row(q, a)
            if row is None:
                continue
            written, move, target = row
            h = m * (q + 1) + a
            for b in range(m):
                for c in range(m):
                    changes[b, h, c] = written
                    if move == 1:
                        changes[h, b, c] = m * (target + 1) + b
                    else:
                        changes[c, b, h] = m * (target + 1) + b
    return changes


class LowerTest(unittest.TestCase):
    def test_letters(self):
        for machine in sample_tapes():
            stair = CellStair(machine)
            self.assertIs(stair.upper, machine)
            self.assertIsInstance(stair.lower, Cells)
            self.assertEqual(stair.lower.letters, machine.marks * (machine.states + 1))
            found = [stair.letter(mark, None) for mark in range(machine.marks)]
            for state in range(machine.states):
                found += [stair.letter(mark, state) for mark in range(machine.marks)]
            self.assertEqual(found, list(range(stair.lower.letters)))

    def test_all_changes_and_no_others(self):
        for machine in sample_tapes():
            self.assertEqual(CellStair(machine).lower.changes(), expected_changes(machine))

    def test_too_many_letters(self):
        for marks, states in ((2, 149), (3, 99), (15, 19), (16, 17), (10, 29)):
            rows = [None] * (marks * states)
            self.assertEqual(CellStair(Tape(marks, states, rows)).lower.letters, marks * (states + 1))
            rows += [None] * marks
            with self.assertRaises(BadCells):
                CellStair(Tape(marks, states + 1, rows))
        with self.assertRaises(BadCells):
            CellStair(Tape(16, 4000, [(1, 1, 1)] * 64000))
        self.assertEqual(CellStair(Tape(2, 149, [None] * 298)).lower.letters, 300)


class DownAndUpTest(unittest.TestCase):
    def test_down(self):
        stair = CellStair(Tape(3, 2, [None] * 6))
        self.assertEqual(stair.down((0, (), 0, ())), (3,))
        self.assertEqual(stair.down((1, (), 2, ())), (8,))
        self.assertEqual(stair.down((1, (0, 2, 1), 1, (0, 2))), (1, 2, 0, 7, 0, 2))
        self.assertEqual(stair.down((0, (), 1, (2, 1))), (4, 2, 1))

    def test_up(self):
        stair = CellStair(Tape(3, 2, [None] * 6))
        self.assertEqual(stair.up((3,)), (0, (), 0, ()))
        self.assertEqual(stair.up((1, 2, 0, 7, 0, 2)), (1, (0, 2, 1), 1, (0, 2)))
        for line in ((), (1,), (2, 0, 1), (3, 3), (4, 0, 0, 8), (1, 6, 5, 2), (3, 3, 3), (8, 1, 0, 3)):
            self.assertIsNone(stair.up(line))

    def test_up_and_down_of_all_short_lines(self):
        stair = CellStair(Tape(2, 2, [None] * 4))
        lines = [()]
        for _ in range(4):
            lines += [line + (letter,) for line in lines for letter in range(6)]
        for line in set(lines):
            if stair.lower.is_configuration(line):
                heads = [letter for letter in line if letter >= 2]
                upper = stair.up(line)
                if len(heads) != 1:
                    self.assertIsNone(upper)
                else:
                    self.assertTrue(stair.upper.is_configuration(upper))
                    self.assertEqual(stair.down(upper), line)


class PromiseTest(unittest.TestCase):
    def test_pace_and_ending(self):
        stair = CellStair(ADD_ONE)
        self.assertEqual(stair.pace((0, (), 1, ())), 1)
        self.assertEqual(stair.ending((0, (), 1, ())), 0)
        self.assertEqual(stair.pace((1, (), 1, ())), 0)
        self.assertEqual(stair.ending((1, (), 1, ())), 0)

    def test_the_promise(self):
        for machine in sample_tapes():
            stair = CellStair(machine)
            for configuration in sample_configurations(machine):
                self.assertTrue(stair.lower.is_configuration(stair.down(configuration)))
                check_promise(self, stair, configuration, 25)

    def test_the_beaver(self):
        stair = CellStair(BEAVER)
        line, taken = stair.lower.run(stair.down((0, (), 0, ())), 1000)
        self.assertEqual((stair.up(line), taken), BEAVER.run((0, (), 0, ()), 1000))


class HeadsTest(unittest.TestCase):
    def lines_of(self, machine, configurations, gap, steps):
        """What becomes of lines that stand beside one another, alone and together."""
        lower = CellStair(machine).lower
        lines = [CellStair(machine).down(configuration) for configuration in configurations]
        whole = lines[0]
        for line in lines[1:]:
            whole += (0,) * gap + line
        start = 0
        expected = {}
        for line in lines:
            rows = lower.rows(line, steps)
            rows += [rows[-1]] * (steps + 1 - len(rows))
            for at, letter in enumerate(rows[steps]):
                if letter:
                    expected[start + at - steps] = letter
            start += len(line) + gap
        rows = lower.rows(whole, steps)
        rows += [rows[-1]] * (steps + 1 - len(rows))
        found = {at - steps: letter for at, letter in enumerate(rows[steps]) if letter}
        return found, expected

    def test_heads_far_apart(self):
        random = Random(11)
        for machine in [ADD_ONE, BEAVER] + [random_tape(random, 3, 2) for _ in range(6)]:
            for steps in (0, 1, 2, 5, 8):
                configurations = [random_configuration(random, machine) for _ in range(3)]
                found, expected = self.lines_of(machine, configurations, 2 * steps + 3, steps)
                self.assertEqual(found, expected)

    def test_heads_three_places_apart(self):
        stair = CellStair(Tape(2, 1, [(1, 1, 0), (0, 1, 0)]))
        self.assertEqual(stair.lower.step((2, 0, 0, 2)), (1, 2, 0, 1, 2))
        self.assertEqual(stair.lower.step((3, 1, 1, 3)), (3, 1, 0, 2))
        self.assertIsNone(stair.up((2, 0, 0, 2)))


class ExampleTest(unittest.TestCase):
    def test_adding_one(self):
        stair = CellStair(ADD_ONE)
        self.assertEqual(stair.lower.letters, 6)
        self.assertEqual(stair.down((0, (), 1, (1,))), (3, 1))
        rows = [(0, 0, 3, 1, 0, 0), (0, 0, 0, 3, 0, 0), (0, 0, 0, 0, 2, 0)]
        self.assertEqual(stair.lower.rows((3, 1), 2), rows)
        self.assertEqual(stair.lower.rows((3, 1), 3)[3], (0, 0, 0, 0, 0, 1, 4, 0))
        self.assertTrue(stair.lower.stopped((1, 4)))
        self.assertEqual(stair.lower.run((3, 1), 9), ((1, 4), 3))


if __name__ == "__main__":
    unittest.main()
