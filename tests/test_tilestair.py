"""The stair from tapes to tiles: [4.8] to [4.12], and [0.5], [0.6] for it."""

import unittest
from random import Random

from stepdown.cellstair import CellStair
from stepdown.corner import fill, is_filling, ways
from stepdown.errors import BadTiles
from stepdown.strip import Strip
from stepdown.tape import Tape
from stepdown.tiles import next_floor
from stepdown.tilestair import TileStair, read_off
from tests.samples import (
    ADD_ONE, BEAVER, check_promise, check_promise_once, random_configuration, random_tape, sample_configurations,
    sample_tapes,
)

RIGHT = Tape(2, 1, [(1, 1, 0), (1, 1, 0)])
LEFT = Tape(2, 1, [(1, -1, 0), (1, -1, 0)])


def small_tapes():
    """Those of the sample machines whose tiles are quickly laid."""
    return [machine for machine in sample_tapes() if machine.marks < 6]


def expected_tiles(machine):
    """The tiles that [4.8] tells."""
    m = machine.marks
    tiles = [(0, a, 0, a) for a in range(m)]
    for q in range(machine.states):
        for a in range(m):
            h = m * (q + 1) + a
            row = machine.row(q, a)
            if row is not None and row[1] == 1:
                tiles.append((1 + 2 * row[2], row[0], 0, h))
            if row is not None and row[1] == -1:
                tiles.append((0, row[0], 2 + 2 * row[2], h))
        for b in range(m):
            g = m * (q + 1) + b
            tiles += [(0, g, 1 + 2 * q, b), (2 + 2 * q, g, 0, b)]
    return tuple(sorted(tiles))


def steps_on_floor(machine, configuration, margin, most):
    """After how many steps, at most, the machine has stopped or its head has left the floor."""
    at = margin + len(configuration[1])
    length = 2 * margin + len(configuration[1]) + 1 + len(configuration[3])
    taken = 0
    while taken < most:
        state, _, mark, _ = configuration
        row = machine.row(state, mark)
        if row is None:
            break
        at += row[1]
        if at < 0 or at >= length:
            break
        configuration = machine.step(configuration)
        taken += 1
    return taken


class LowerTest(unittest.TestCase):
    def test_all_tiles_and_no_others(self):
        for machine in sample_tapes():
            stair = TileStair(machine)
            self.assertIs(stair.upper, machine)
            self.assertIsInstance(stair.lower, Strip)
            self.assertEqual(stair.lower.tiles.tiles, expected_tiles(machine))

    def test_machines_with_and_without_stopped_rows(self):
        self.assertEqual(TileStair(ADD_ONE).lower.tiles.tiles, (
            (0, 0, 0, 0), (0, 1, 0, 1), (0, 2, 1, 0), (0, 3, 1, 1), (0, 4, 3, 0), (0, 5, 3, 1),
            (1, 0, 0, 3), (2, 2, 0, 0), (2, 3, 0, 1), (3, 1, 0, 2), (4, 4, 0, 0), (4, 5, 0, 1),
        ))
        self.assertEqual(TileStair(LEFT).lower.tiles.tiles, (
            (0, 0, 0, 0), (0, 1, 0, 1), (0, 1, 2, 2), (0, 1, 2, 3), (0, 2, 1, 0), (0, 3, 1, 1),
            (2, 2, 0, 0), (2, 3, 0, 1),
        ))
        self.assertEqual(len(TileStair(Tape(3, 2, [None] * 6)).lower.tiles.tiles), 15)

    def test_the_greatest_machines(self):
        # There are m + 2 * m * s tiles, and one more for each row that is not None.
        for marks, states in ((2, 166), (2, 249), (3, 166), (16, 30), (15, 32), (7, 66)):
            taken = 1000 - marks - 2 * marks * states
            rows = [(1, 1, states - 1), (0, -1, 0)] * (marks * states)
            rows = rows[:min(taken, marks * states)]
            rows += [None] * (marks * states - len(rows))
            machine = Tape(marks, states, rows)
            self.assertEqual(TileStair(machine).lower.tiles.tiles, expected_tiles(machine))
            if taken < marks * states:
                rows[taken] = (1, 1, 0)
                with self.assertRaises(BadTiles):
                    TileStair(Tape(marks, states, rows))

    def test_more_than_a_thousand_tiles(self):
        for marks, states in ((2, 250), (2, 4000), (3, 167), (16, 31), (16, 4000)):
            with self.assertRaises(BadTiles):
                TileStair(Tape(marks, states, [None] * (marks * states)))
        with self.assertRaises(BadTiles):
            TileStair(Tape(2, 167, [(1, 1, 0)] * 334))

    def test_more_letters_than_a_line_of_cells_has(self):
        machine = Tape(3, 120, [(1, 1, at % 120) for at in range(200)] + [None] * 160)
        stair = TileStair(machine)
        for state in (0, 50, 66, 119):
            for mark in (0, 1, 2):
                configuration = (state, (2, 1), mark, (0, 0, 2))
                self.assertEqual(stair.down(configuration), (1, 2, 3 * (state + 1) + mark, 0, 0, 2))
                check_promise(self, stair, configuration, 3)


class DownAndUpTest(unittest.TestCase):
    def test_the_lines_are_those_of_the_cells(self):
        for machine in sample_tapes():
            stair, cells = TileStair(machine), CellStair(machine)
            for configuration in sample_configurations(machine):
                line = stair.down(configuration)
                self.assertEqual(line, cells.down(configuration))
                self.assertEqual(stair.up(line), configuration)
                self.assertTrue(stair.lower.is_configuration(line))

    def test_down(self):
        stair = TileStair(Tape(3, 2, [None] * 6))
        self.assertEqual(stair.down((0, (), 0, ())), (3,))
        self.assertEqual(stair.down((1, (0, 2, 1), 1, (0, 2))), (1, 2, 0, 7, 0, 2))

    def test_lines_that_mean_nothing(self):
        stair = TileStair(Tape(3, 2, [None] * 6))
        for line in ((), (1,), (2, 0, 1), (3, 3), (4, 0, 0, 8), (1, 6, 5, 2)):
            self.assertIsNone(stair.up(line))

    def test_colours_that_are_no_letters(self):
        stair = TileStair(Tape(3, 2, [None] * 6))
        self.assertEqual(stair.up((8,)), (1, (), 2, ()))
        for line in ((9,), (999,), (1, 9), (9, 1), (3, 9), (9, 3), (1, 4, 2, 500), (10, 4, 2, 1), (9, 9)):
            self.assertIsNone(stair.up(line))


class PromiseTest(unittest.TestCase):
    def test_pace_and_ending(self):
        stair = TileStair(ADD_ONE)
        self.assertEqual(stair.pace((0, (), 1, ())), 1)
        self.assertEqual(stair.ending((0, (), 1, ())), 0)
        self.assertEqual(stair.pace((1, (), 1, ())), 0)
        self.assertEqual(stair.ending((1, (), 1, ())), 0)

    def test_the_promise(self):
        for machine in sample_tapes():
            stair = TileStair(machine)
            for configuration in sample_configurations(machine, 6):
                check_promise(self, stair, configuration, 15)

    def test_where_the_machine_has_stopped(self):
        for machine in sample_tapes():
            stair = TileStair(machine)
            for configuration in sample_configurations(machine):
                if machine.stopped(configuration):
                    self.assertIs(stair.lower.stopped(stair.down(configuration)), True)
                    self.assertEqual(stair.lower.run(stair.down(configuration), 3), (stair.down(configuration), 0))
                    check_promise_once(self, stair, configuration)

    def test_where_the_head_leaves_what_is_written(self):
        self.assertEqual(TileStair(RIGHT).lower.run((3,), 4), ((1, 1, 1, 1, 2), 4))
        self.assertEqual(TileStair(LEFT).lower.run((2,), 4), ((2, 1, 1, 1, 1), 4))
        for machine in (RIGHT, LEFT):
            for configuration in ((0, (), 0, ()), (0, (1,), 1, ()), (0, (), 1, (0, 1)), (0, (0, 1), 0, (0, 1))):
                check_promise(self, TileStair(machine), configuration, 12)

    def test_the_beaver(self):
        stair = TileStair(BEAVER)
        line, taken = stair.lower.run(stair.down((0, (), 0, ())), 1000)
        self.assertEqual((stair.up(line), taken), BEAVER.run((0, (), 0, ()), 1000))


class CornerTest(unittest.TestCase):
    def test_floor(self):
        stair = TileStair(ADD_ONE)
        self.assertEqual(stair.floor((0, (), 1, (1,)), 0), (3, 1))
        self.assertEqual(stair.floor((0, (), 1, (1,)), 1), (0, 3, 1, 0))
        self.assertEqual(stair.floor((0, (0, 1), 0, ()), 3), (0, 0, 0, 1, 0, 2, 0, 0, 0))
        self.assertEqual(len(stair.floor((0, (), 0, ()), 100)), 201)

    def check_fillings(self, stair, configuration, margin, height):
        """[4.10] and [4.11] for one floor and height; whether there is a filling."""
        floor = stair.floor(configuration, margin)
        tiles = stair.lower.tiles
        expected = int(steps_on_floor(stair.upper, configuration, margin, height) == height)
        self.assertEqual(ways(tiles, floor, 0, 0, height), expected)
        rows = fill(tiles, floor, 0, 0, height)
        if expected == 0:
            self.assertIsNone(rows)
            return False
        self.assertTrue(is_filling(tiles, floor, 0, 0, rows))
        upper = configuration
        means = []
        for row in rows:
            upper = stair.upper.step(upper)
            means.append(upper)
            line = stair.down(upper)
            above = next_floor(row)
            self.assertEqual(len(above), len(floor))
            colours = "".join([chr(colour) for colour in above]).strip(chr(0))
            self.assertEqual(colours, "".join([chr(colour) for colour in line]).strip(chr(0)))
            self.assertEqual(stair.up(above), upper)
        self.assertEqual(read_off(stair, rows), means)
        return True

    def test_margins_as_great_as_the_height(self):
        random = Random(22)
        seen = {True: 0, False: 0}
        for machine in [ADD_ONE, BEAVER, LEFT, RIGHT] + small_tapes()[2:8]:
            stair = TileStair(machine)
            for _ in range(3):
                configuration = random_configuration(random, machine)
                for k in (0, 1, 2, 3, 5, 9, 20):
                    found = self.check_fillings(stair, configuration, k, k)
                    self.assertIs(found, machine.run(configuration, k)[1] == k)
                    seen[found] += 1
        self.assertGreater(min(seen.values()), 20)

    def test_all_heights_up_to_twenty(self):
        stair = TileStair(BEAVER)
        for k in range(21):
            self.assertTrue(self.check_fillings(stair, (0, (), 0, ()), k, k))
        stair = TileStair(ADD_ONE)
        for k in range(21):
            self.assertIs(self.check_fillings(stair, (0, (), 1, (1,)), k, k), k <= 3)

    def test_any_margin(self):
        random = Random(23)
        left_floor = 0
        for machine in [ADD_ONE, BEAVER, LEFT, RIGHT] + small_tapes()[2:8]:
            stair = TileStair(machine)
            for _ in range(3):
                configuration = random_configuration(random, machine, 2)
                for margin in (0, 1, 2, 4):
                    for k in (0, 1, 2, 3, 4, 6, 12):
                        found = self.check_fillings(stair, configuration, margin, k)
                        goes_on = machine.run(configuration, k)[1] == k
                        left_floor += goes_on and not found
        self.assertGreater(left_floor, 20)

    def test_a_head_that_leaves_the_floor(self):
        for machine in (LEFT, RIGHT):
            stair = TileStair(machine)
            for margin in range(5):
                floor = stair.floor((0, (), 0, ()), margin)
                found = [ways(stair.lower.tiles, floor, 0, 0, k) for k in range(8)]
                self.assertEqual(found, [1] * (margin + 1) + [0] * (7 - margin))

    def test_only_its_own_margin_keeps_the_head(self):
        # To the right of the head there is more floor than to its left.
        floor = TileStair(LEFT).floor((0, (), 0, (1, 1, 1)), 1)
        self.assertEqual(ways(TileStair(LEFT).lower.tiles, floor, 0, 0, 2), 0)
        self.assertEqual(ways(TileStair(RIGHT).lower.tiles, floor, 0, 0, 4), 1)
        self.assertEqual(ways(TileStair(RIGHT).lower.tiles, floor, 0, 0, 5), 0)


class ReadOffTest(unittest.TestCase):
    def test_no_rows(self):
        self.assertEqual(read_off(TileStair(ADD_ONE), []), [])

    def test_a_filling(self):
        stair = TileStair(ADD_ONE)
        rows = fill(stair.lower.tiles, (0, 3, 1, 0, 0, 0), 0, 0, 3)
        found = read_off(stair, rows)
        self.assertEqual(found, [(0, (), 1, ()), (0, (), 0, ()), (1, (1,), 0, ())])
        self.assertIsInstance(found, list)

    def test_floors_that_mean_nothing(self):
        stair = TileStair(ADD_ONE)
        blank, arrived = (0, 0, 0, 0), (0, 2, 1, 0)
        left = (1, 0, 0, 3)
        good = (left, arrived)
        self.assertEqual(read_off(stair, [good]), [(0, (), 0, ())])
        wrong = [
            (), (blank,), (blank, blank), ((0, 1, 0, 1),), (left,),
            (left, arrived, left, arrived), ((2, 2, 0, 0), (0, 3, 1, 1)), ((0, 6, 0, 0),), ((0, 2, 0, 0), (0, 99, 0, 0)),
        ]
        for row in wrong:
            for rows in ([row], [good, row], [row, good], [good, row, good]):
                with self.assertRaises(BadTiles):
                    read_off(stair, rows)


if __name__ == "__main__":
    unittest.main()
