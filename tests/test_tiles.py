"""Square tiles and rows of them: [4.1] to [4.3], [4.13], and [0.7] for them."""

import unittest
from itertools import product
from random import Random

from stepdown.errors import BadTiles, TooLarge
from stepdown.tiles import Tiles, next_floor, rows_on
from tests.samples import NO_NUMBERS

EXAMPLE = Tiles([(0, 1, 0, 1), (0, 0, 0, 0), (1, 1, 0, 0), (0, 1, 1, 0)])


def random_tiles(random, colours, many):
    every = list(product(range(colours), repeat=4))
    random.shuffle(every)
    return Tiles(every[:many])


def plain_rows(tiles, floor, left, right):
    """All rows, found among all sequences of tiles."""
    found = []
    for row in product(tiles.tiles, repeat=len(floor)):
        walls = [left] + [tile[0] for tile in row]
        wests = [tile[2] for tile in row] + [right]
        if walls == wests and tuple(tile[3] for tile in row) == floor:
            found.append(row)
    return found


class MakingTest(unittest.TestCase):
    def refused(self, tiles):
        with self.assertRaises(BadTiles):
            Tiles(tiles)

    def test_the_order(self):
        tiles = [(5, 0, 0, 0), (0, 0, 0, 5), (0, 0, 5, 0), (0, 5, 0, 0), (0, 0, 0, 0), (10, 0, 0, 0), (5, 0, 0, 1)]
        expected = (
            (0, 0, 0, 0), (0, 0, 0, 5), (0, 0, 5, 0), (0, 5, 0, 0), (5, 0, 0, 0), (5, 0, 0, 1), (10, 0, 0, 0),
        )
        self.assertEqual(Tiles(tiles).tiles, expected)
        self.assertEqual(Tiles(tiles[::-1]).tiles, expected)
        self.assertIsInstance(Tiles(tiles).tiles, tuple)
        self.assertEqual(tiles[0], (5, 0, 0, 0))

    def test_no_tiles(self):
        self.assertEqual(Tiles([]).tiles, ())

    def test_a_tile_twice(self):
        self.refused([(1, 2, 3, 4), (1, 2, 3, 4)])
        self.refused([(1, 2, 3, 4), (0, 0, 0, 0), (4, 3, 2, 1), (1, 2, 3, 4)])
        self.assertEqual(len(Tiles([(1, 2, 3, 4), (4, 1, 2, 3), (3, 4, 1, 2), (2, 3, 4, 1)]).tiles), 4)

    def test_members_that_are_no_tiles(self):
        Tiles([(999, 0, 999, 0), (0, 999, 0, 999)])
        wrong = [
            [0, 0, 0, 0], (0, 0, 0), (0, 0, 0, 0, 0), (), "0000", "", None, 0, True, {}, b"0000",
            (-1, 0, 0, 0), (0, -1, 0, 0), (0, 0, -1, 0), (0, 0, 0, -1),
            (1000, 0, 0, 0), (0, 1000, 0, 0), (0, 0, 1000, 0), (0, 0, 0, 1000), (10 ** 30, 0, 0, 0),
        ]
        for value in NO_NUMBERS:
            wrong += [(value, 0, 0, 0), (0, value, 0, 0), (0, 0, value, 0), (0, 0, 0, value)]
        for member in wrong:
            self.refused([member])
            self.refused([(1, 1, 1, 1), member])
            self.refused([member, (1, 1, 1, 1)])

    def test_number_of_tiles(self):
        tiles = [(at, 0, 0, 0) for at in range(1000)]
        self.assertEqual(Tiles(tiles[::-1]).tiles, tuple(tiles))
        self.refused(tiles + [(0, 1, 0, 0)])
        self.refused([(at, at, 0, 0) for at in range(1000)] + [(1, 0, at, 0) for at in range(500)])

    def test_no_list(self):
        for value in (None, 3, {}, "0000"):
            self.refused(value)

    def test_the_list_is_copied(self):
        tiles = [(1, 0, 0, 0), (0, 0, 1, 0)]
        machine = Tiles(tiles)
        self.assertEqual(tiles, [(1, 0, 0, 0), (0, 0, 1, 0)])
        tiles.append((0, 0, 0, 0))
        tiles[0] = (2, 2, 2, 2)
        self.assertEqual(machine.tiles, ((0, 0, 1, 0), (1, 0, 0, 0)))
        self.assertEqual(rows_on(machine, (0, 0), 0, 0), [((1, 0, 0, 0), (0, 0, 1, 0))])


class RowsTest(unittest.TestCase):
    def test_the_empty_floor(self):
        self.assertEqual(rows_on(EXAMPLE, (), 0, 0), [()])
        self.assertEqual(rows_on(EXAMPLE, (), 7, 7), [()])
        self.assertEqual(rows_on(EXAMPLE, (), 0, 1), [])
        self.assertEqual(rows_on(Tiles([]), (), 3, 3), [()])

    def test_the_example(self):
        self.assertEqual(rows_on(EXAMPLE, (0, 0), 0, 0), [
            ((0, 0, 0, 0), (0, 0, 0, 0)), ((1, 1, 0, 0), (0, 1, 1, 0)),
        ])
        self.assertEqual(rows_on(EXAMPLE, (1, 1), 0, 0), [((0, 1, 0, 1), (0, 1, 0, 1))])

    def test_walls(self):
        self.assertEqual(rows_on(EXAMPLE, (0,), 0, 1), [((1, 1, 0, 0),)])
        self.assertEqual(rows_on(EXAMPLE, (0,), 1, 0), [((0, 1, 1, 0),)])
        self.assertEqual(rows_on(EXAMPLE, (0,), 1, 1), [])
        self.assertEqual(rows_on(EXAMPLE, (0,), 5, 0), [])
        self.assertEqual(rows_on(EXAMPLE, (0,), 0, 5), [])
        self.assertEqual(rows_on(EXAMPLE, (9,), 0, 0), [])
        self.assertEqual(rows_on(EXAMPLE, (0, 9, 0), 0, 0), [])
        self.assertEqual(rows_on(Tiles([]), (0,), 0, 0), [])

    def test_rows_among_all_sequences(self):
        random = Random(12)
        several = 0
        for _ in range(150):
            colours = random.choice((2, 3))
            tiles = random_tiles(random, colours, random.randrange(1, 13))
            floor = tuple(random.randrange(colours) for _ in range(random.randrange(4)))
            left, right = random.randrange(colours), random.randrange(colours)
            expected = plain_rows(tiles, floor, left, right)
            self.assertEqual(rows_on(tiles, floor, left, right), expected)
            self.assertEqual(expected, sorted(expected))
            several += len(expected) > 1
        self.assertGreater(several, 20)

    def test_kinds(self):
        rows = rows_on(EXAMPLE, (0, 0), 0, 0)
        self.assertIsInstance(rows, list)
        for row in rows:
            self.assertIsInstance(row, tuple)
        rows.clear()
        self.assertEqual(len(rows_on(EXAMPLE, (0, 0), 0, 0)), 2)

    def test_long_floors(self):
        blank = ((0, 0, 0, 0),)
        tiles = Tiles(list(blank))
        self.assertEqual(rows_on(tiles, (0,) * 60, 0, 0), [blank * 60])
        for floor in ((0,) * 61, (5,) * 61, (0,) * 1000):
            for right in (0, 1):
                with self.assertRaises(TooLarge):
                    rows_on(tiles, floor, 0, right)

    def test_two_thousand_rows(self):
        # Fifty tiles have a 0 in the south, and forty a 1.
        tiles = [(0, north, 0, 0) for north in range(50)] + [(0, north, 0, 1) for north in range(40)]
        rows = rows_on(Tiles(tiles), (0, 1), 0, 0)
        self.assertEqual(len(rows), 2000)
        self.assertEqual(rows[0], ((0, 0, 0, 0), (0, 0, 0, 1)))
        self.assertEqual(rows[1999], ((0, 49, 0, 0), (0, 39, 0, 1)))
        self.assertEqual(rows, sorted(rows))
        # Each of the other two adds no row; both together add one.
        self.assertEqual(len(rows_on(Tiles(tiles + [(1, 0, 0, 0)]), (0, 1), 0, 0)), 2000)
        self.assertEqual(len(rows_on(Tiles(tiles + [(0, 0, 1, 1)]), (0, 1), 0, 0)), 2000)
        with self.assertRaises(TooLarge):
            rows_on(Tiles(tiles + [(1, 0, 0, 0), (0, 0, 1, 1)]), (0, 1), 0, 0)

    def test_more_than_two_thousand_rows(self):
        tiles = Tiles([(0, north, 0, 0) for north in range(29)] + [(0, north, 0, 1) for north in range(69)])
        self.assertEqual(len(rows_on(tiles, (0,), 0, 0)), 29)
        self.assertEqual(len(rows_on(tiles, (0, 0), 0, 0)), 841)
        for floor in ((0, 1), (1, 0), (1, 1), (0, 0, 0), (0,) * 60, (1,) * 60):
            with self.assertRaises(TooLarge):
                rows_on(tiles, floor, 0, 0)

    def test_many_beginnings_and_few_rows(self):
        # Every place but the last one has twenty tiles for every colour in the west.
        many = [(east, north, west, 0) for east in (0, 1) for west in (0, 1) for north in range(20)]
        tiles = Tiles(many + [(7, 3, 1, 5), (0, 0, 8, 5)])
        floor = (0,) * 59 + (5,)
        self.assertEqual(rows_on(tiles, floor, 0, 0), [])
        self.assertEqual(rows_on(tiles, floor, 0, 8), [])
        self.assertEqual(rows_on(tiles, (0,) * 60, 0, 4), [])
        self.assertEqual(rows_on(tiles, (9,) + (0,) * 59, 0, 0), [])
        self.assertEqual(rows_on(tiles, (0,) * 59 + (9,), 0, 0), [])
        with self.assertRaises(TooLarge):
            rows_on(tiles, floor, 0, 7)

    def test_many_dead_ends_and_one_row(self):
        # The colour 1 in the west is left by no tile with the south 5.
        tiles = [(0, 0, 0, 0)] + [(1, north, west, 0) for west in (0, 1) for north in range(30)] + [(0, 2, 0, 5)]
        row = ((0, 0, 0, 0),) * 59 + ((0, 2, 0, 5),)
        self.assertEqual(rows_on(Tiles(tiles), (0,) * 59 + (5,), 0, 0), [row])


class NextFloorTest(unittest.TestCase):
    def test_next_floor(self):
        self.assertEqual(next_floor(()), ())
        self.assertEqual(next_floor(((1, 2, 3, 4),)), (2,))
        self.assertEqual(next_floor(((1, 2, 3, 4), (5, 6, 1, 8), (0, 0, 5, 1))), (2, 6, 0))


if __name__ == "__main__":
    unittest.main()
