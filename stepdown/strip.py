"""Square tiles as a machine: each row of colours leads to the next floor above it."""

from stepdown.cells import unpadded
from stepdown.checks import is_line
from stepdown.errors import BadTiles, ManyRows
from stepdown.running import run_by_steps
from stepdown.tiles import GREATEST_COLOUR, by_west, ends_of_rows, next_floor

BLANK = (0, 0, 0, 0)
SIDE = 0


class Strip:
    """An endless strip of tiles; a step lays the only row that stands on the floor."""

    def __init__(self, tiles):
        if not tiles.has(BLANK):
            raise BadTiles("a strip needs the blank tile")
        self.tiles = tiles

    def is_configuration(self, value):
        """Whether a value is a configuration of this machine."""
        return is_line(value, GREATEST_COLOUR)

    def stopped(self, configuration):
        """Whether the machine has stopped in a configuration."""
        return self.step(configuration) is None

    def step(self, configuration):
        """The configuration after one step, or None."""
        floor = (0,) + configuration + (0,)
        # Whether there are two rows or more makes no difference.
        ends = ends_of_rows(self.tiles, floor, SIDE, 2)
        many = ends[0].get(SIDE, 0)
        if many > 1:
            raise ManyRows("several rows stand on the floor")
        if many == 0:
            return None
        return unpadded(next_floor(self._only_row(floor, ends)))

    def _only_row(self, floor, ends):
        """The row that stands on a floor with these ends of rows; there is just one."""
        row = []
        west = SIDE
        for at, colour in enumerate(floor):
            tile = by_west(self.tiles.on_colour(colour), ends[at + 1])[west][0]
            row.append(tile)
            west = tile[0]
        return tuple(row)

    def run(self, configuration, steps):
        """The configuration after at most so many steps, and their number."""
        return run_by_steps(self, configuration, steps)
