"""Strips of tiles as machines: [4.6], [4.7], and [0.4], [0.7] for them."""

import unittest
from itertools import product
from random import Random

from stepdown.errors import BadTiles, ManyRows
from stepdown.strip import Strip
from stepdown.tiles import Tiles, next_floor, rows_on
from tests.samples import NO_NUMBERS, WRONG_KINDS, check_step_and_run

BLANK = (0, 0, 0, 0)
# Each 1 becomes a 2, each 2 a 3, and a 3 has no tile.
RISING = Strip(Tiles([BLANK, (0, 2, 0, 1), (0, 3, 0, 2)]))
# A line of ones grows by one at each end in every step.
GROWING = Strip(Tiles([BLANK, (5, 1, 0, 0), (5, 1, 5, 1), (0, 1, 5, 0)]))
# Two ones become nothing.
FADING = Strip(Tiles([BLANK, (3, 0, 0, 1), (0, 0, 3, 1)]))
# On (0, 0) stand two rows, on (1, 1) one.
EXAMPLE = Strip(Tiles([(0, 1, 0, 1), BLANK, (1, 1, 0, 0), (0, 1, 1, 0)]))


def plain_step(strip, configuration):
    """What [4.6] says, by `rows_on`."""
    rows = rows_on(strip.tiles, (0,) + configuration + (0,), 0, 0)
    if len(rows) > 1:
        return "many"
    if len(rows) == 0:
        return None
    floor = list(next_floor(rows[0]))
    while floor and floor[-1] == 0:
        floor.pop()
    while floor and floor[0] == 0:
        floor.pop(0)
    return tuple(floor)


class MakingTest(unittest.TestCase):
    def test_a_set_without_the_blank_tile(self):
        for tiles in ([], [(0, 0, 0, 1)], [(0, 1, 0, 0), (1, 0, 0, 0), (0, 0, 1, 0), (0, 0, 0, 1), (1, 1, 1, 1)]):
            with self.assertRaises(BadTiles):
                Strip(Tiles(tiles))

    def test_the_attribute(self):
        tiles = Tiles([(0, 1, 0, 1), BLANK])
        self.assertIs(Strip(tiles).tiles, tiles)
        self.assertEqual(Strip(tiles).tiles.tiles, (BLANK, (0, 1, 0, 1)))


class ConfigurationTest(unittest.TestCase):
    def test_configurations(self):
        for value in ((), (1,), (999,), (1, 0, 2), (5, 0, 0, 0, 5), (1, 2, 3), (7, 999, 0, 1)):
            self.assertIs(RISING.is_configuration(value), True)

    def test_zeros_at_the_ends(self):
        for value in ((0,), (0, 0), (0, 1), (1, 0), (0, 1, 0), (2, 3, 0), (0, 2, 3)):
            self.assertIs(RISING.is_configuration(value), False)

    def test_wrong_colours(self):
        for colour in (-1, 1000, 10 ** 30, -10 ** 30) + NO_NUMBERS:
            for value in ((colour,), (1, colour, 1), (colour, 1), (1, colour)):
                self.assertIs(RISING.is_configuration(value), False)

    def test_wrong_kinds(self):
        for value in WRONG_KINDS + ([1], "1", b"1", {1: 1}, 10 ** 30):
            self.assertIs(RISING.is_configuration(value), False)


class StepTest(unittest.TestCase):
    def test_no_row(self):
        for configuration in ((3,), (1, 3), (3, 0, 1), (2, 999, 2), (7,)):
            self.assertIsNone(RISING.step(configuration))
            self.assertIs(RISING.stopped(configuration), True)
            self.assertEqual(RISING.run(configuration, 7), (configuration, 0))

    def test_one_row(self):
        self.assertEqual(RISING.step((1, 0, 2)), (2, 0, 3))
        self.assertIs(RISING.stopped((1, 0, 2)), False)
        self.assertEqual(GROWING.step((1,)), (1, 1, 1))
        self.assertEqual(FADING.step((1, 1, 0, 1, 1)), ())
        self.assertEqual(EXAMPLE.step((1,)), (1,))

    def test_several_rows(self):
        for configuration in ((), (1, 0, 0, 1)):
            for ask in (EXAMPLE.step, EXAMPLE.stopped):
                with self.assertRaises(ManyRows):
                    ask(configuration)
            with self.assertRaises(ManyRows):
                EXAMPLE.run(configuration, 1)
        # With one zero between two ones there is no place for a second row.
        self.assertEqual(EXAMPLE.step((1, 0, 1)), (1, 0, 1))

    def test_just_two_rows(self):
        strip = Strip(Tiles([BLANK, (0, 1, 0, 5), (0, 2, 0, 5)]))
        with self.assertRaises(ManyRows):
            strip.step((5,))
        self.assertEqual(strip.step(()), ())

    def test_more_than_two_thousand_rows(self):
        strip = Strip(Tiles([BLANK] + [(0, north, 0, 5) for north in range(50)]))
        for length in (1, 2, 3, 10, 100):
            for ask in (strip.step, strip.stopped):
                with self.assertRaises(ManyRows):
                    ask((5,) * length)
            with self.assertRaises(ManyRows):
                strip.run((5,) * length, 3)

    def test_the_empty_line(self):
        for strip in (RISING, FADING):
            self.assertEqual(strip.step(()), ())
            self.assertIs(strip.stopped(()), False)
            self.assertEqual(strip.run((), 5), ((), 5))
        # (0, 0) may also carry the two ends of a line of ones.
        with self.assertRaises(ManyRows):
            GROWING.step(())

    def test_lines_that_become_empty(self):
        self.assertEqual(FADING.step((1, 1)), ())
        self.assertEqual(FADING.run((1, 1), 3), ((), 3))
        self.assertIsNone(FADING.step((1,)))
        self.assertIsNone(FADING.step((1, 1, 1)))

    def test_lines_that_grow_at_both_ends(self):
        self.assertEqual(GROWING.run((1,), 4), ((1,) * 9, 4))
        self.assertEqual(GROWING.run((1, 1), 100), ((1,) * 202, 100))

    def test_lines_that_grow_at_one_end(self):
        right = Strip(Tiles([BLANK, (4, 2, 0, 1), (0, 1, 4, 0), (0, 2, 0, 2)]))
        self.assertEqual(right.run((1,), 3), ((2, 2, 2, 1), 3))
        left = Strip(Tiles([BLANK, (0, 2, 4, 1), (4, 1, 0, 0), (0, 2, 0, 2)]))
        self.assertEqual(left.run((1,), 3), ((1, 2, 2, 2), 3))

    def test_lines_that_grow_by_one_place_only(self):
        # The floor has one zero at each end, so a colour cannot arrive two places away.
        strip = Strip(Tiles([BLANK, (4, 2, 0, 1), (5, 3, 4, 0), (0, 6, 5, 0)]))
        self.assertIsNone(strip.step((1,)))
        self.assertEqual(strip.step((1, 0)), (2, 3, 6))

    def test_zeros_within_a_line_stay(self):
        strip = Strip(Tiles([BLANK, (0, 0, 0, 1), (0, 2, 0, 2)]))
        self.assertEqual(strip.step((1, 2, 1, 0, 2, 1, 1)), (2, 0, 0, 2))
        self.assertEqual(strip.step((1, 1, 2)), (2,))
        self.assertEqual(strip.step((2, 1)), (2,))
        self.assertEqual(strip.step((1,)), ())

    def test_walls_have_the_colour_0(self):
        strip = Strip(Tiles([BLANK, (7, 1, 7, 1), (7, 0, 7, 0), (8, 0, 0, 0), (9, 1, 8, 1)]))
        self.assertIsNone(strip.step((1,)))
        self.assertEqual(strip.step(()), ())

    def test_long_floors(self):
        for length in (58, 59, 60, 61, 100, 5000):
            self.assertEqual(RISING.step((1,) * length), (2,) * length)
            self.assertEqual(RISING.run((1,) * length, 9), ((3,) * length, 2))
        self.assertEqual(GROWING.step((1,) * 3000), (1,) * 3002)

    def test_one_row_among_many_beginnings_and_ends(self):
        many = [(east, north, west, 1) for east in (0, 1) for west in (0, 1) for north in range(20)]
        strip = Strip(Tiles([BLANK, (2, 3, 0, 5), (0, 4, 2, 5), (9, 9, 0, 5)] + many))
        self.assertEqual(strip.step((5, 5)), (3, 4))
        self.assertIsNone(strip.step((5,) + (1,) * 500))
        with self.assertRaises(ManyRows):
            strip.step((5, 5) + (1,) * 500)

    def test_random_strips(self):
        random = Random(21)
        every = [tile for tile in product(range(3), repeat=4) if tile != BLANK]
        seen = {"many": 0, "none": 0, "one": 0}
        for _ in range(400):
            strip = Strip(Tiles([BLANK] + random.sample(every, random.randrange(1, 14))))
            for length in (0, 1, 2, 3, 4):
                configuration = tuple(random.choice((1, 2)) for _ in range(length))
                expected = plain_step(strip, configuration)
                if expected == "many":
                    seen["many"] += 1
                    for ask in (strip.step, strip.stopped):
                        with self.assertRaises(ManyRows):
                            ask(configuration)
                    continue
                seen["none" if expected is None else "one"] += 1
                self.assertEqual(strip.step(configuration), expected)
                self.assertIs(strip.stopped(configuration), expected is None)
        self.assertGreater(min(seen.values()), 100)


class RunTest(unittest.TestCase):
    def test_run(self):
        for strip, configuration in ((RISING, (1, 0, 1)), (RISING, ()), (FADING, (1, 1)), (GROWING, (1, 1))):
            check_step_and_run(self, strip, configuration, 6)
        self.assertEqual(RISING.run((1,), 1), ((2,), 1))
        self.assertEqual(RISING.run((1,), 2), ((3,), 2))
        self.assertEqual(RISING.run((1,), 1000), ((3,), 2))

    def test_no_steps(self):
        for strip, configuration in ((RISING, (1,)), (RISING, (3,)), (EXAMPLE, ()), (EXAMPLE, (1, 0, 0, 1))):
            self.assertEqual(strip.run(configuration, 0), (configuration, 0))

    def test_a_run_into_a_line_with_several_rows(self):
        strip = Strip(Tiles([BLANK, (0, 2, 0, 1), (0, 3, 0, 2), (0, 4, 0, 3), (0, 5, 0, 3)]))
        self.assertEqual(strip.run((1,), 1), ((2,), 1))
        self.assertEqual(strip.run((1,), 2), ((3,), 2))
        for steps in (3, 4, 100):
            with self.assertRaises(ManyRows):
                strip.run((1,), steps)


if __name__ == "__main__":
    unittest.main()
