"""Fillings: [4.4], [4.5], [4.13]."""

import unittest
from random import Random

from stepdown.corner import fill, is_filling, ways
from stepdown.errors import TooLarge
from stepdown.tiles import Tiles, next_floor, rows_on
from tests.samples import WRONG_KINDS
from tests.test_tiles import EXAMPLE, random_tiles

BLANK = (0, 0, 0, 0)
# Each place may get each of two colours, whatever is below it.
FREE = Tiles([(0, north, 0, south) for north in (0, 1) for south in (0, 1)])


def plain_fillings(tiles, floor, left, right, height):
    """All fillings, in ascending order."""
    if height == 0:
        return [[]]
    found = []
    for row in rows_on(tiles, floor, left, right):
        for rest in plain_fillings(tiles, next_floor(row), left, right, height - 1):
            found.append([row] + rest)
    return found


class Both(unittest.TestCase):
    def too_large(self, tiles, floor, left, right, height):
        with self.assertRaises(TooLarge):
            ways(tiles, floor, left, right, height)
        with self.assertRaises(TooLarge):
            fill(tiles, floor, left, right, height)


class SmallTest(Both):
    def test_the_example(self):
        self.assertEqual(ways(EXAMPLE, (0, 0), 0, 0, 1), 2)
        self.assertEqual(ways(EXAMPLE, (0, 0), 0, 0, 2), 3)
        self.assertEqual(fill(EXAMPLE, (0, 0), 0, 0, 2), [(BLANK, BLANK), (BLANK, BLANK)])
        self.assertEqual(fill(EXAMPLE, (1, 1), 0, 0, 2), [((0, 1, 0, 1), (0, 1, 0, 1))] * 2)

    def test_all_fillings(self):
        random = Random(13)
        several = none = 0
        for _ in range(300):
            colours = random.choice((2, 3))
            tiles = random_tiles(random, colours, random.randrange(1, 14))
            floor = tuple(random.randrange(colours) for _ in range(random.randrange(4)))
            left, right = random.randrange(colours), random.randrange(colours)
            height = random.randrange(4)
            expected = plain_fillings(tiles, floor, left, right, height)
            self.assertEqual(ways(tiles, floor, left, right, height), len(expected))
            found = fill(tiles, floor, left, right, height)
            self.assertEqual(found, min(expected) if expected else None)
            for filling in expected[:5]:
                self.assertIs(is_filling(tiles, floor, left, right, filling), True)
            several += len(expected) > 1 and height > 1 and len(floor) > 0
            none += not expected
        self.assertGreater(several, 20)
        self.assertGreater(none, 20)

    def test_no_height(self):
        for floor in ((), (0, 0), (5,), (0,) * 60):
            for right in (0, 1):
                self.assertEqual(ways(EXAMPLE, floor, 0, right, 0), 1)
                self.assertEqual(fill(EXAMPLE, floor, 0, right, 0), [])
        self.assertEqual(ways(Tiles([]), (0,), 0, 0, 0), 1)

    def test_the_empty_floor(self):
        self.assertEqual(ways(EXAMPLE, (), 3, 3, 5), 1)
        self.assertEqual(fill(EXAMPLE, (), 3, 3, 5), [()] * 5)
        self.assertEqual(ways(EXAMPLE, (), 3, 4, 5), 0)
        self.assertIsNone(fill(EXAMPLE, (), 3, 4, 5))

    def test_no_filling(self):
        self.assertEqual(ways(EXAMPLE, (0,), 1, 1, 1), 0)
        self.assertIsNone(fill(EXAMPLE, (0,), 1, 1, 1))
        self.assertEqual(ways(EXAMPLE, (2,), 0, 0, 60), 0)
        self.assertIsNone(fill(EXAMPLE, (2,), 0, 0, 60))
        # A countdown that comes to an end above the fifth row.
        tiles = Tiles([(0, at - 1, 0, at) for at in range(1, 6)])
        self.assertEqual([ways(tiles, (5,), 0, 0, height) for height in range(8)], [1] * 6 + [0, 0])
        self.assertEqual(fill(tiles, (5,), 0, 0, 5), [((0, at - 1, 0, at),) for at in range(5, 0, -1)])
        self.assertIsNone(fill(tiles, (5,), 0, 0, 6))
        self.assertEqual(fill(tiles, (5,), 0, 0, 3), [((0, at - 1, 0, at),) for at in (5, 4, 3)])

    def test_the_least_of_several(self):
        # The least row leads to a floor on which nothing stands.
        tiles = Tiles([(0, 1, 0, 0), (0, 2, 0, 0), (0, 3, 0, 0), (0, 5, 0, 2), (0, 4, 0, 3), (0, 4, 0, 4)])
        self.assertEqual(fill(tiles, (0,), 0, 0, 1), [((0, 1, 0, 0),)])
        self.assertEqual(fill(tiles, (0,), 0, 0, 2), [((0, 2, 0, 0),), ((0, 5, 0, 2),)])
        self.assertEqual(fill(tiles, (0,), 0, 0, 3), [((0, 3, 0, 0),), ((0, 4, 0, 3),), ((0, 4, 0, 4),)])
        self.assertEqual([ways(tiles, (0,), 0, 0, height) for height in (1, 2, 3, 4)], [3, 2, 1, 1])

    def test_the_least_of_rows_with_the_same_next_floor(self):
        tiles = Tiles([(1, 1, 0, 0), (0, 1, 1, 0), (0, 1, 0, 0), (2, 1, 0, 0), (0, 1, 2, 0), (0, 0, 0, 1)])
        self.assertEqual(ways(tiles, (0, 0), 0, 0, 2), 3)
        self.assertEqual(fill(tiles, (0, 0), 0, 0, 2), [((0, 1, 0, 0),) * 2, ((0, 0, 0, 1),) * 2])
        self.assertEqual(fill(tiles, (0, 0), 0, 0, 1), [((0, 1, 0, 0),) * 2])
        others = Tiles([(2, 1, 0, 0), (0, 1, 2, 0), (1, 1, 0, 0), (0, 1, 1, 0)])
        self.assertEqual(fill(others, (0, 0), 0, 0, 1), [((1, 1, 0, 0), (0, 1, 1, 0))])

    def test_what_is_returned_is_new(self):
        found = fill(EXAMPLE, (0, 0), 0, 0, 2)
        self.assertIsInstance(found, list)
        found.clear()
        self.assertEqual(len(fill(EXAMPLE, (0, 0), 0, 0, 2)), 2)


class LimitsTest(Both):
    def test_heights(self):
        tiles = Tiles([BLANK])
        self.assertEqual(ways(tiles, (0,), 0, 0, 60), 1)
        self.assertEqual(fill(tiles, (0,), 0, 0, 60), [(BLANK,)] * 60)
        self.too_large(tiles, (0,), 0, 0, 61)
        self.too_large(tiles, (), 0, 0, 61)
        self.too_large(tiles, (0,), 0, 1, 61)
        self.too_large(tiles, (1,), 0, 0, 10 ** 20)

    def test_floors(self):
        tiles = Tiles([BLANK])
        self.assertEqual(ways(tiles, (0,) * 60, 0, 0, 60), 1)
        self.assertEqual(fill(tiles, (0,) * 60, 0, 0, 60), [(BLANK,) * 60] * 60)
        for height in (0, 1, 60, 61):
            self.too_large(tiles, (0,) * 61, 0, 0, height)
        self.too_large(tiles, (7,) * 61, 0, 0, 0)

    def test_great_numbers(self):
        self.assertEqual(ways(FREE, (0,) * 6, 0, 0, 60), 2 ** 360)
        self.assertEqual(ways(FREE, (1, 0, 1), 0, 0, 59), 2 ** 177)
        self.assertEqual(fill(FREE, (1, 0, 1), 0, 0, 59)[0], ((0, 0, 0, 1), BLANK, (0, 0, 0, 1)))
        tiles = Tiles([(east, 0, west, 0) for east in range(12) for west in range(12)])
        self.assertEqual(ways(tiles, (0,) * 4, 3, 5, 60), 12 ** 180)
        self.assertEqual(fill(tiles, (0,) * 4, 3, 5, 60)[59], ((0, 0, 3, 0), BLANK, BLANK, (5, 0, 0, 0)))

    def test_two_thousand_floors(self):
        # One row leads to forty colours in the first place and fifty in the second one; they stay.
        tiles = [(0, 1 + at, 0, 0) for at in range(40)] + [(0, 50 + at, 0, 41) for at in range(50)]
        tiles += [(0, 1 + at, 0, 1 + at) for at in range(40)] + [(0, 50 + at, 0, 50 + at) for at in range(50)]
        tiles = Tiles(tiles)
        for height in (1, 2, 3, 60):
            self.assertEqual(ways(tiles, (0, 41), 0, 0, height), 2000)
        self.assertEqual(fill(tiles, (0, 41), 0, 0, 3)[1:], [((0, 1, 0, 1), (0, 50, 0, 50))] * 2)

    def test_more_than_two_thousand_floors(self):
        # On each floor stand at most 45 rows, but at the height 2 they lead to 45 * 45 floors.
        first = [(0, 1 + at, 0, 0) for at in range(45)] + [(0, 101, 0, 100)]
        second = [(0, 1 + at, 0, 1 + at) for at in range(45)] + [(0, 200 + at, 0, 101) for at in range(45)]
        top = [(0, 200, 0, 200 + at) for at in range(45)]
        tiles = Tiles(first + second + top)
        self.assertEqual(ways(tiles, (0, 100), 0, 0, 1), 45)
        self.too_large(tiles, (0, 100), 0, 0, 2)
        self.too_large(tiles, (0, 100), 0, 0, 3)
        self.too_large(tiles, (0, 100), 0, 0, 60)
        fewer = Tiles(first + second[:45] + second[45:89] + top)
        self.assertEqual(ways(fewer, (0, 100), 0, 0, 2), 45 * 44)
        self.assertEqual(ways(fewer, (0, 100), 0, 0, 4), 45 * 44)

    def test_the_bound_for_floors(self):
        # 2000 floors at the height 2, and one more with one more tile.
        tiles = [(0, 1 + at, 0, 0) for at in range(41)] + [(0, 100, 0, 99)]
        tiles += [(0, 1 + at, 0, 1 + at) for at in range(40)] + [(0, 200 + at, 0, 100) for at in range(50)]
        self.assertEqual(ways(Tiles(tiles), (0, 99), 0, 0, 2), 2000)
        self.assertEqual(len(fill(Tiles(tiles), (0, 99), 0, 0, 2)), 2)
        more = tiles + [(3, 41, 0, 41), (0, 200, 3, 100)]
        self.too_large(Tiles(more), (0, 99), 0, 0, 2)
        self.assertEqual(ways(Tiles(more), (0, 99), 0, 0, 1), 41)

    def test_floors_are_counted_at_each_height(self):
        # At every height there are 1000 other floors: 3000 in all.
        tiles = [(0, 1 + at, 0, 0) for at in range(10)]
        for base in (1, 11):
            tiles += [(0, base + 10 + at, 0, base + at) for at in range(10)]
        tiles = Tiles(tiles)
        self.assertEqual(ways(tiles, (0, 0, 0), 0, 0, 1), 1000)
        self.assertEqual(ways(tiles, (0, 0, 0), 0, 0, 2), 1000)
        self.assertEqual(ways(tiles, (0, 0, 0), 0, 0, 3), 1000)
        self.assertEqual(ways(tiles, (0, 0, 0), 0, 0, 4), 0)

    def test_a_floor_on_the_way_with_too_many_rows(self):
        wide = [(0, 2, west, 1) for west in range(45)] + [(east, 2, 0, 1) for east in range(1, 45)]
        wide += [(east, 2, 3, 1) for east in range(1, 45)] + [(east, 2, 4, 1) for east in range(1, 45)]
        tiles = Tiles(wide + [(0, 1, 0, 0), (0, 2, 0, 2)])
        with self.assertRaises(TooLarge):
            rows_on(tiles, (1, 1, 1, 1), 0, 0)
        self.assertEqual(ways(tiles, (0, 0, 0, 0), 0, 0, 1), 1)
        self.assertEqual(len(fill(tiles, (0, 0, 0, 0), 0, 0, 1)), 1)
        self.too_large(tiles, (0, 0, 0, 0), 0, 0, 2)
        self.too_large(tiles, (1, 1, 1, 1), 0, 0, 1)
        self.assertEqual(ways(tiles, (1, 1, 1, 1), 0, 0, 0), 1)

    def test_a_dead_end_with_too_many_rows_is_refused_too(self):
        # The least filling is found without the floor (9, 9), but fillings of the height 1 lead to it.
        tiles = [(0, 1, 0, 0), (0, 9, 5, 0), (5, 9, 0, 0), (0, 1, 0, 1)] + [(0, at, 0, 9) for at in range(45)]
        tiles = Tiles(tiles)
        self.assertEqual(ways(tiles, (0, 0), 0, 0, 1), 2)
        self.assertEqual(fill(tiles, (0, 0), 0, 0, 1), [((0, 1, 0, 0),) * 2])
        self.too_large(tiles, (0, 0), 0, 0, 2)

    def test_many_floors_at_many_heights(self):
        # Two of sixty places are marked; a mark stays or goes one place to the right.
        tiles = Tiles([BLANK, (0, 1, 0, 1), (1, 0, 0, 1), (0, 1, 1, 0), (1, 1, 1, 1)])
        floor = tuple(int(place in (0, 20)) for place in range(60))
        self.assertEqual(ways(tiles, floor, 0, 0, 1), 4)
        self.assertEqual(len(fill(tiles, floor, 0, 0, 39)), 39)
        self.assertEqual(ways(tiles, (1,) + (0,) * 59, 0, 0, 60), 2 ** 60 - 1)


class IsFillingTest(unittest.TestCase):
    def is_one(self, rows, tiles=EXAMPLE, floor=(0, 0), left=0, right=0):
        found = is_filling(tiles, floor, left, right, rows)
        self.assertIsInstance(found, bool)
        return found

    def test_fillings(self):
        ones = ((0, 1, 0, 1), (0, 1, 0, 1))
        start = ((1, 1, 0, 0), (0, 1, 1, 0))
        for rows in ([], [(BLANK, BLANK)], [start], [start, ones], [(BLANK, BLANK), start, ones, ones]):
            self.assertTrue(self.is_one(rows))

    def test_other_rows(self):
        ones = ((0, 1, 0, 1), (0, 1, 0, 1))
        start = ((1, 1, 0, 0), (0, 1, 1, 0))
        for rows in (
            [ones], [(BLANK, BLANK), ones], [start, start], [start, (BLANK, BLANK)], [start, ones, start],
            [()], [(BLANK,)], [(BLANK,) * 3], [(BLANK, BLANK), ()], [start, ones[:1]],
            [((1, 1, 0, 0), BLANK)], [(BLANK, (0, 1, 1, 0))], [(BLANK, (1, 1, 0, 0))], [((0, 1, 1, 0), BLANK)],
            [((2, 0, 0, 0), (0, 0, 2, 0))], [((0, 5, 0, 0), BLANK)],
        ):
            self.assertFalse(self.is_one(rows), rows)

    def test_walls(self):
        row = [((1, 1, 0, 0),)]
        self.assertTrue(self.is_one(row, floor=(0,), left=0, right=1))
        self.assertFalse(self.is_one(row, floor=(0,), left=1, right=1))
        self.assertFalse(self.is_one(row, floor=(0,), left=0, right=0))
        self.assertTrue(self.is_one([], floor=(0,), left=0, right=9))
        self.assertTrue(self.is_one([(), ()], floor=(), left=4, right=4))
        self.assertFalse(self.is_one([()], floor=(), left=4, right=5))
        self.assertTrue(self.is_one([], floor=(), left=4, right=5))

    def test_wrong_kinds(self):
        good = (BLANK, BLANK)
        for rows in WRONG_KINDS:
            if rows != []:
                self.assertFalse(self.is_one(rows))
        for rows in ((), (good,), {0: good}, good, "00"):
            self.assertFalse(self.is_one(rows))
        for row in (
            None, 0, True, "ab", [BLANK, BLANK], {0: 1, 1: 2}, ([0, 0, 0, 0], BLANK), (BLANK, None), (BLANK, 0),
            (BLANK, "0000"), (BLANK, ()), (BLANK, (0, 0, 0)), (BLANK, (0, 0, 0, 0, 0)), (BLANK, (False, 0, 0, 0)),
            (BLANK, (0, False, 0, 0)), (BLANK, (0, 0, False, 0)), (BLANK, (0, 0, 0, False)), (BLANK, (0.0, 0, 0, 0)),
            (BLANK, ([0], 0, 0, 0)), (BLANK, (0, 0, 0, None)), (BLANK, {}), (BLANK, [0, 0, 0, 0]), ((), ()),
        ):
            self.assertFalse(self.is_one([row]), row)
            self.assertFalse(self.is_one([good, row]), row)
            self.assertFalse(self.is_one([row, good]), row)

    def test_no_bounds(self):
        tiles = Tiles([BLANK])
        self.assertTrue(self.is_one([(BLANK,) * 61] * 62, tiles=tiles, floor=(0,) * 61))

    def test_the_rows_are_not_changed(self):
        rows = [(BLANK, BLANK)]
        is_filling(EXAMPLE, (0, 0), 0, 0, rows)
        self.assertEqual(rows, [(BLANK, BLANK)])


if __name__ == "__main__":
    unittest.main()
