"""Fillings of the corner over a floor between two walls."""

from stepdown.errors import TooLarge
from stepdown.tiles import LONGEST_FLOOR, next_floor, rows_on

GREATEST_HEIGHT = 60
MOST_FLOORS = 2000


class Floors:
    """The floors that rows between two walls lead to, each known by a number."""

    def __init__(self, tiles, left, right):
        self.tiles = tiles
        self.left = left
        self.right = right
        self._numbers = {}
        self._floors = []
        self._above = {}

    def number(self, floor):
        """The number of a floor."""
        if floor not in self._numbers:
            self._numbers[floor] = len(self._floors)
            self._floors.append(floor)
        return self._numbers[floor]

    def rows(self, number):
        """The rows that stand on the floor with a number."""
        return rows_on(self.tiles, self._floors[number], self.left, self.right)

    def above(self, number):
        """How many rows on the floor with a number lead to each next floor."""
        # The same floor may come back at every height.
        if number not in self._above:
            counts = {}
            rows = self.rows(number)
            for row in rows:
                following = self.number(next_floor(row))
                counts[following] = counts.get(following, 0) + 1
            self._above[number] = counts
        return self._above[number]

    def next_counts(self, counts):
        """How many fillings lead to each floor, one row higher than these."""
        found = {}
        for number, many in counts.items():
            higher = self.above(number)
            for following, rows in higher.items():
                found[following] = found.get(following, 0) + many * rows
            if len(found) > MOST_FLOORS:
                raise TooLarge("at each height there are at most 2000 floors")
        return found

    def counts_by_height(self, floor, height):
        """How many fillings lead to each floor, for all heights from 0 on."""
        found = [{self.number(floor): 1}]
        for _ in range(height):
            found.append(self.next_counts(found[-1]))
        return found

    def row_to(self, number, wanted):
        """The least row on the floor with a number whose next floor is wanted; there is one."""
        rows = self.rows(number)
        return [row for row in rows if self.number(next_floor(row)) in wanted][0]


def check_sizes(floor, height):
    """Refuses what is too large to be filled."""
    if len(floor) > LONGEST_FLOOR:
        raise TooLarge("a floor has at most 60 colours")
    if height > GREATEST_HEIGHT:
        raise TooLarge("a filling has a height of at most 60")


def ways(tiles, floor, left, right, height):
    """The number of fillings."""
    check_sizes(floor, height)
    counts = Floors(tiles, left, right).counts_by_height(floor, height)
    return sum(counts[-1].values())


def fill(tiles, floor, left, right, height):
    """The least filling, or None."""
    check_sizes(floor, height)
    floors = Floors(tiles, left, right)
    counts = floors.counts_by_height(floor, height)
    wanted = going_to_the_top(floors, counts)
    if len(wanted[0]) == 0:
        return None
    number = floors.number(floor)
    rows = []
    for at_height in wanted[1:]:
        row = floors.row_to(number, at_height)
        rows.append(row)
        number = floors.number(next_floor(row))
    return rows


def going_to_the_top(floors, counts):
    """For each height the floors from which rows can be laid up to the top, as the keys of a dict."""
    wanted = [counts[-1]]
    for layer in counts[:-1][::-1]:
        higher = wanted[-1]
        wanted.append({number: True for number in layer if leads_to(floors.above(number), higher)})
    return wanted[::-1]


def leads_to(above, wanted):
    """Whether one of the next floors is wanted."""
    return any(number in wanted for number in above)


def is_filling(tiles, floor, left, right, rows):
    """Whether a value is a filling."""
    if not isinstance(rows, list):
        return False
    for row in rows:
        if not stands_on(tiles, floor, left, right, row):
            return False
        floor = next_floor(row)
    return True


def stands_on(tiles, floor, left, right, row):
    """Whether a value is a row that stands on a floor between two walls."""
    if not isinstance(row, tuple) or len(row) != len(floor):
        return False
    wall = left
    for tile, colour in zip(row, floor):
        if not tiles.has(tile) or tile[3] != colour or tile[2] != wall:
            return False
        wall = tile[0]
    return wall == right
