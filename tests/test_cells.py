"""Lines of cells: [3.1] to [3.6], and [0.4], [0.7] for them."""

import unittest
from random import Random

from stepdown.cells import Cells, mirrored_cells, together
from stepdown.errors import BadCells
from tests.samples import NO_NUMBERS, WRONG_KINDS, check_step_and_run

# A 1 moves to the right, one place in each step.
RIGHT = Cells(2, {(1, 0, 0): 1, (1, 0, 1): 1, (0, 1, 0): 0})
# The line of ones grows at both ends.
GROW = Cells(2, {(1, 0, 0): 1, (0, 0, 1): 1})
# Ones without two neighbours become 0.
SHRINK = Cells(2, {(0, 1, 0): 0, (0, 1, 1): 0, (1, 1, 0): 0})


def random_cells(random, letters, share=0.5):
    """A machine that changes a share of its triples."""
    changes = {}
    for left in range(letters):
        for middle in range(letters):
            for right in range(letters):
                if (left, middle, right) != (0, 0, 0) and random.random() < share:
                    changes[left, middle, right] = random.randrange(letters)
    return Cells(letters, changes)


def random_line(random, letters, longest=6):
    line = [random.randrange(letters) for _ in range(random.randrange(longest + 1))]
    while line and line[0] == 0:
        line.pop(0)
    while line and line[-1] == 0:
        line.pop()
    return tuple(line)


def sample_machines():
    random = Random(5)
    machines = [RIGHT, GROW, SHRINK, Cells(1, {}), Cells(3, {})]
    for letters in (2, 3, 4, 5):
        for share in (0.1, 0.5, 1):
            machines.append(random_cells(random, letters, share))
    return machines


def plain_step(machine, cells):
    """A step of a dict of all cells that are not 0, from which `step` must not differ."""
    after = {}
    for place in sorted({near for cell in cells for near in (cell - 1, cell, cell + 1)}):
        triple = tuple(cells.get(near, 0) for near in (place - 1, place, place + 1))
        letter = machine.changes().get(triple, triple[1])
        if letter:
            after[place] = letter
    return after


def plain_line(cells):
    if not cells:
        return ()
    return tuple(cells.get(place, 0) for place in range(min(cells), max(cells) + 1))


class MakingTest(unittest.TestCase):
    def refused(self, letters, changes):
        with self.assertRaises(BadCells):
            Cells(letters, changes)

    def test_numbers_of_letters(self):
        for letters in (1, 2, 299, 300):
            self.assertEqual(Cells(letters, {}).letters, letters)
        for letters in (-1, 0, 301, 302, 10 ** 5000):
            self.refused(letters, {})
        for letters in NO_NUMBERS:
            self.refused(letters, {})

    def test_keys(self):
        Cells(3, {(0, 1, 2): 1, (2, 2, 2): 0})
        for key in (
            (), (1,), (1, 1), (1, 1, 1, 1), 1, 0, None, "abc", "111", b"111", True, frozenset((1, 2)),
            (3, 1, 1), (1, 3, 1), (1, 1, 3), (-1, 1, 1), (1, -1, 1), (1, 1, -1),
            (True, 1, 1), (1, True, 1), (1, 1, True), (False, 1, 1), (1, False, 1), (1, 1, False),
            (None, 1, 1), (1, "1", 1), (1, 1, 1.0), ((1,), 1, 1), (0, 0, False),
        ):
            self.refused(3, {key: 0})
            self.refused(3, {(2, 2, 2): 1, key: 0})

    def test_a_key_that_is_a_list(self):
        class Row(list):
            __hash__ = object.__hash__

        self.refused(3, {Row((1, 1, 1)): 1})

    def test_values(self):
        Cells(3, {(1, 1, 1): 2})
        for value in (3, -1, 10 ** 20) + NO_NUMBERS:
            self.refused(3, {(1, 1, 1): value})
            self.refused(3, {(1, 2, 1): 1, (1, 1, 1): value})
        self.refused(1, {(0, 0, 0): 1})

    def test_three_zeros(self):
        self.refused(3, {(0, 0, 0): 1})
        self.refused(3, {(0, 0, 0): 2, (1, 1, 1): 0})
        self.assertEqual(Cells(3, {(0, 0, 0): 0}).changes(), {(0, 0, 0): 0})
        self.refused(3, {(0, 0, 0): False})

    def test_no_dict(self):
        for changes in (None, 3, [((1, 1, 1), 1)], ()):
            self.refused(2, changes)

    def test_the_dict_is_copied(self):
        changes = {(1, 0, 0): 1}
        machine = Cells(2, changes)
        changes[1, 0, 0] = 0
        changes[0, 1, 0] = 0
        self.assertEqual(machine.changes(), {(1, 0, 0): 1})
        self.assertEqual(machine.change(1, 0, 0), 1)
        self.assertEqual(machine.change(0, 1, 0), 1)
        self.assertEqual(changes, {(1, 0, 0): 0, (0, 1, 0): 0})

    def test_changes_are_just_what_was_passed(self):
        passed = {(1, 0, 0): 1, (0, 1, 0): 1, (2, 2, 2): 2, (0, 0, 0): 0}
        machine = Cells(3, passed)
        found = machine.changes()
        self.assertEqual(found, passed)
        self.assertIsInstance(found, dict)
        found.clear()
        self.assertEqual(machine.changes(), passed)
        self.assertEqual(machine.change(1, 0, 0), 1)
        self.assertEqual(Cells(2, {}).changes(), {})

    def test_change(self):
        machine = Cells(4, {(1, 2, 3): 0, (3, 2, 1): 1, (0, 0, 1): 3})
        self.assertEqual(machine.change(1, 2, 3), 0)
        self.assertEqual(machine.change(3, 2, 1), 1)
        self.assertEqual(machine.change(0, 0, 1), 3)
        self.assertEqual(machine.change(1, 0, 0), 0)
        self.assertEqual(machine.change(2, 3, 1), 3)
        self.assertEqual(machine.change(0, 0, 0), 0)
        for left in range(4):
            for middle in range(4):
                for right in range(4):
                    expected = machine.changes().get((left, middle, right), middle)
                    self.assertEqual(machine.change(left, middle, right), expected)


class ConfigurationTest(unittest.TestCase):
    def test_configurations(self):
        machine = Cells(3, {})
        for value in ((), (1,), (2,), (1, 0, 2), (2, 2), (1, 0, 0, 0, 1)):
            self.assertIs(machine.is_configuration(value), True)

    def test_others(self):
        machine = Cells(3, {})
        for value in (
            (0,), (0, 0), (0, 1), (1, 0), (0, 1, 0), (3,), (1, 3, 1), (-1,), (1, -1, 1), (3, 1), (1, 3),
            [1], [], (True,), (1, True, 1), (1, False, 1), (1.0,), (1, 1.0, 1), ("1",), "1", (1, None, 1),
            ((1,),), ([1], 1), {1: 1}, (1, (), 1),
        ):
            self.assertIs(machine.is_configuration(value), False, value)
        for value in WRONG_KINDS:
            self.assertIs(machine.is_configuration(value), False)

    def test_one_letter(self):
        self.assertIs(Cells(1, {}).is_configuration(()), True)
        self.assertIs(Cells(1, {}).is_configuration((0,)), False)
        self.assertIs(Cells(1, {}).is_configuration((1,)), False)


class StepTest(unittest.TestCase):
    def test_a_step_that_only_moves_the_letters(self):
        self.assertEqual(RIGHT.step((1,)), (1,))
        self.assertIs(RIGHT.stopped((1,)), False)
        self.assertEqual(RIGHT.run((1,), 7), ((1,), 7))
        self.assertEqual(RIGHT.run((1, 0, 1), 3), ((1, 0, 1), 3))

    def test_a_line_that_grows(self):
        self.assertEqual(GROW.step((1,)), (1, 1, 1))
        self.assertEqual(GROW.run((1,), 10), ((1,) * 21, 10))
        self.assertEqual(Cells(3, {(2, 0, 0): 2}).step((1, 2)), (1, 2, 2))
        self.assertEqual(Cells(3, {(0, 0, 2): 1}).step((2, 1)), (1, 2, 1))

    def test_a_line_that_shrinks(self):
        self.assertEqual(SHRINK.step((1, 1, 1, 1)), (1, 1))
        self.assertEqual(SHRINK.step((1, 1)), ())
        self.assertEqual(SHRINK.step((1,)), ())
        self.assertIs(SHRINK.stopped((1,)), False)
        self.assertIsNone(SHRINK.step(()))
        self.assertIs(SHRINK.stopped(()), True)
        self.assertEqual(SHRINK.run((1,) * 7, 3), ((1,), 3))
        self.assertEqual(SHRINK.run((1,) * 7, 4), ((), 4))
        self.assertEqual(SHRINK.run((1,) * 7, 5), ((), 4))
        self.assertEqual(SHRINK.run((1,) * 7, 10 ** 30), ((), 4))
        self.assertEqual(SHRINK.run((), 3), ((), 0))

    def test_zeros_within_the_line(self):
        self.assertEqual(SHRINK.step((1, 1, 1, 0, 1)), (1,))
        self.assertEqual(SHRINK.step((1, 1, 1, 0, 0, 1, 1, 1)), (1, 0, 0, 0, 0, 1))

    def test_stopped(self):
        still = Cells(3, {(1, 1, 1): 0, (1, 2, 1): 2})
        self.assertIs(still.stopped((1, 2, 1)), True)
        self.assertIsNone(still.step((1, 2, 1)))
        self.assertIs(still.stopped((1, 1, 1)), False)
        self.assertEqual(still.step((1, 1, 1)), (1, 0, 1))

    def test_all_cells_at_once(self):
        swap = Cells(3, {(0, 1, 2): 2, (1, 2, 0): 1, (0, 2, 1): 1, (2, 1, 0): 2})
        self.assertEqual(swap.step((1, 2)), (2, 1))
        self.assertEqual(swap.run((1, 2), 101), ((2, 1), 101))

    def test_steps_of_numbered_cells(self):
        random = Random(6)
        for machine in sample_machines():
            for _ in range(8):
                line = random_line(random, machine.letters)
                cells = {place: letter for place, letter in enumerate(line) if letter}
                for _ in range(8):
                    self.assertTrue(machine.is_configuration(line))
                    after = plain_step(machine, cells)
                    self.assertIs(machine.stopped(line), after == cells)
                    if after == cells:
                        self.assertIsNone(machine.step(line))
                        break
                    self.assertEqual(machine.step(line), plain_line(after))
                    cells, line = after, plain_line(after)

    def test_step_stopped_and_run(self):
        random = Random(7)
        for machine in sample_machines():
            for _ in range(5):
                check_step_and_run(self, machine, random_line(random, machine.letters), 8)


class RowsTest(unittest.TestCase):
    def test_no_steps(self):
        self.assertEqual(GROW.rows((1, 0, 1), 0), [(1, 0, 1)])
        self.assertEqual(GROW.rows((), 0), [()])

    def test_the_empty_line(self):
        self.assertEqual(GROW.rows((), 3), [(0,) * 6])

    def test_rows(self):
        self.assertEqual(GROW.rows((1,), 2), [(0, 0, 1, 0, 0), (0, 1, 1, 1, 0), (1, 1, 1, 1, 1)])
        self.assertEqual(RIGHT.rows((1,), 2), [(0, 0, 1, 0, 0), (0, 0, 0, 1, 0), (0, 0, 0, 0, 1)])
        self.assertEqual(RIGHT.rows((1, 0, 1), 1), [(0, 1, 0, 1, 0), (0, 0, 1, 0, 1)])

    def test_lines_that_stop_earlier(self):
        self.assertEqual(SHRINK.rows((1, 1, 1), 4), [
            (0, 0, 0, 0, 1, 1, 1, 0, 0, 0, 0), (0, 0, 0, 0, 0, 1, 0, 0, 0, 0, 0), (0,) * 11,
        ])
        self.assertEqual(SHRINK.rows((1, 1, 1), 2), [(0, 0, 1, 1, 1, 0, 0), (0, 0, 0, 1, 0, 0, 0), (0,) * 7])
        self.assertEqual(Cells(2, {}).rows((1, 1), 2), [(0, 0, 1, 1, 0, 0)])

    def test_rows_of_numbered_cells(self):
        random = Random(8)
        for machine in sample_machines():
            for steps in (0, 1, 2, 5, 9):
                line = random_line(random, machine.letters)
                cells = {place: letter for place, letter in enumerate(line) if letter}
                expected = []
                while len(expected) <= steps:
                    places = range(-steps, len(line) + steps)
                    expected.append(tuple(cells.get(place, 0) for place in places))
                    after = plain_step(machine, cells)
                    if after == cells:
                        break
                    cells = after
                rows = machine.rows(line, steps)
                self.assertEqual(rows, expected)
                self.assertEqual(len(rows), machine.run(line, steps)[1] + 1)


class MirroredTest(unittest.TestCase):
    def test_changes(self):
        machine = mirrored_cells(Cells(4, {(1, 2, 3): 0, (0, 0, 1): 2, (1, 1, 1): 1}))
        self.assertIsInstance(machine, Cells)
        self.assertEqual(machine.letters, 4)
        self.assertEqual(machine.changes(), {(3, 2, 1): 0, (1, 0, 0): 2, (1, 1, 1): 1})

    def test_mirrored_lines(self):
        random = Random(9)
        for machine in sample_machines():
            other = mirrored_cells(machine)
            self.assertEqual(mirrored_cells(other).changes(), machine.changes())
            for _ in range(5):
                line = random_line(random, machine.letters)
                for steps in (0, 1, 4):
                    end, taken = machine.run(line, steps)
                    self.assertEqual(other.run(line[::-1], steps), (end[::-1], taken))


class TogetherTest(unittest.TestCase):
    def test_each_step_is_a_step_of_both(self):
        random = Random(10)
        for many, others in ((2, 3), (3, 2), (1, 4), (4, 1), (2, 2), (3, 4), (1, 1)):
            first = random_cells(random, many)
            second = random_cells(random, others)
            both = together(first, second)
            self.assertIsInstance(both, Cells)
            self.assertEqual(both.letters, many * others)
            for _ in range(6):
                length = random.randrange(1, 6)
                above = {place: random.randrange(many) for place in range(length)}
                below = {place: random.randrange(others) for place in range(length)}
                for _ in range(5):
                    places = sorted(set(above) | set(below))
                    cells = {place: above.get(place, 0) * others + below.get(place, 0) for place in places}
                    cells = {place: letter for place, letter in cells.items() if letter}
                    above = plain_step(first, {place: letter for place, letter in above.items() if letter})
                    below = plain_step(second, {place: letter for place, letter in below.items() if letter})
                    after = {
                        place: above.get(place, 0) * others + below.get(place, 0)
                        for place in sorted(set(above) | set(below))
                    }
                    line = plain_line(cells)
                    self.assertEqual(both.step(line), None if after == cells else plain_line(after))

    def test_one_goes_on_where_the_other_has_stopped(self):
        both = together(RIGHT, Cells(3, {}))
        self.assertEqual(both.letters, 6)
        self.assertEqual(both.run((5,), 3), ((2, 0, 0, 3), 3))
        other = together(Cells(3, {}), RIGHT)
        self.assertEqual(other.run((5,), 3), ((4, 0, 0, 1), 3))

    def test_numbers_of_letters(self):
        self.assertEqual(together(Cells(40, {}), Cells(1, {})).letters, 40)
        self.assertEqual(together(RIGHT, Cells(20, {})).letters, 40)
        for many, others in ((41, 1), (1, 41), (21, 2), (2, 21), (6, 7), (300, 300)):
            with self.assertRaises(BadCells):
                together(Cells(many, {}), Cells(others, {}))


if __name__ == "__main__":
    unittest.main()
