"""Square tiles, and rows of them on a floor."""

from stepdown.checks import are_numbers
from stepdown.errors import BadTiles, TooLarge

GREATEST_COLOUR = 999
MOST_TILES = 1000
LONGEST_FLOOR = 60
MOST_ROWS = 2000


def is_tile(value):
    """Whether a value is a tuple of four colours."""
    return are_numbers(value, 0, GREATEST_COLOUR) and len(value) == 4


class Tiles:
    """A set of tiles (east, north, west, south)."""

    def __init__(self, tiles):
        if not isinstance(tiles, list) or len(tiles) > MOST_TILES:
            raise BadTiles("a set of tiles is made of a list of at most 1000 tiles")
        for tile in tiles:
            if not is_tile(tile):
                raise BadTiles("a tile is a tuple of four colours from 0 to 999")
        if len(set(tiles)) != len(tiles):
            raise BadTiles("a tile occurs twice")
        self.tiles = tuple(sorted(tiles))
        self._by_south = {}
        for tile in self.tiles:
            self._by_south[tile[3]] = self.on_colour(tile[3]) + (tile,)

    def on_colour(self, colour):
        """The tiles with this colour in the south, in ascending order."""
        return self._by_south.get(colour, ())

    def has(self, value):
        """Whether a value is a tile of this set."""
        return is_tile(value) and value in self.on_colour(value[3])


def rows_on(tiles, floor, left, right):
    """All rows that stand on a floor between two walls, in ascending order."""
    if len(floor) > LONGEST_FLOOR:
        raise TooLarge("a floor has at most 60 colours")
    ends = ends_of_rows(tiles, floor, right, MOST_ROWS + 1)
    if ends[0].get(left, 0) > MOST_ROWS:
        raise TooLarge("at most 2000 rows stand on a floor")
    rows = [()] if left in ends[0] else []
    for at, colour in enumerate(floor):
        fitting = by_west(tiles.on_colour(colour), ends[at + 1])
        rows = [row + (tile,) for row in rows for tile in fitting[row[-1][0] if row else left]]
    return rows


def ends_of_rows(tiles, floor, right, enough):
    """For each place of a floor, and behind the last one: how many ends of rows there are by the colour in the west.

    Rows are begun only where they have an end, so that no time goes into the others. Numbers
    above `enough` are counted as `enough`: on a long floor they would have very many digits."""
    ends = [{right: 1}]
    for colour in floor[::-1]:
        behind = ends[-1]
        here = {}
        for east, _, west, _ in tiles.on_colour(colour):
            if east in behind:
                here[west] = min(enough, here.get(west, 0) + behind[east])
        ends.append(here)
    return ends[::-1]


def by_west(tiles, ends):
    """Lists of the tiles behind which there is an end of a row, by the colour in the west."""
    fitting = {}
    for tile in tiles:
        if tile[0] in ends:
            fitting.setdefault(tile[2], []).append(tile)
    return fitting


def next_floor(row):
    """The colours in the north of the tiles of a row."""
    return tuple([tile[1] for tile in row])
