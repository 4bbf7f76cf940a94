"""The stair from a tape machine to a strip of tiles."""

from stepdown.cellstair import letter_of, line_of, meaning_of
from stepdown.errors import BadTiles
from stepdown.strip import Strip
from stepdown.tiles import Tiles, next_floor

NOTHING = 0


class TileStair:
    """The stair: each place of the tape is a tile, and a head leaves through the side of one."""

    def __init__(self, machine):
        self.upper = machine
        self._letters = machine.marks * (machine.states + 1)
        self.lower = Strip(Tiles(self._all_tiles()))

    def _all_tiles(self):
        """The tiles for the places without a head, and for all states and marks."""
        marks = self.upper.marks
        tiles = [(NOTHING, mark, NOTHING, mark) for mark in range(marks)]
        for state in range(self.upper.states):
            for mark in range(marks):
                head = letter_of(marks, mark, state)
                row = self.upper.row(state, mark)
                if row is not None:
                    tiles.append(left_by(row, head))
                tiles.append((NOTHING, head, passing(1, state), mark))
                tiles.append((passing(-1, state), head, NOTHING, mark))
        return tiles

    def down(self, configuration):
        """The row of colours that belongs to a configuration of the tape machine."""
        return line_of(self.upper.marks, configuration)

    def up(self, line):
        """The configuration of the tape machine that a row of colours means, or None."""
        if any([colour >= self._letters for colour in line]):
            return None
        return meaning_of(self.upper.marks, line)

    def pace(self, configuration):
        """How many steps of the strip one step of the tape machine takes."""
        return 0 if self.upper.stopped(configuration) else 1

    def ending(self, configuration):
        """After how many steps the strip stops where the tape machine has stopped: at once."""
        return 0

    def floor(self, configuration, margin):
        """The floor of a configuration, with so many zeros before it and after it."""
        return (0,) * margin + self.down(configuration) + (0,) * margin


def passing(move, state):
    """The colour in the east or west of a head that moves and arrives in a state."""
    return 2 * state + (1 if move == 1 else 2)


def left_by(row, head):
    """The tile that a head leaves by a row, on a place with this letter."""
    written, move, state = row
    if move == 1:
        return passing(move, state), written, NOTHING, head
    return NOTHING, written, passing(move, state), head


def read_off(stair, rows):
    """The configurations that the next floors of the rows of a filling mean."""
    found = []
    for row in rows:
        configuration = stair.up(next_floor(row))
        if configuration is None:
            raise BadTiles("a floor of the filling means nothing")
        found.append(configuration)
    return found
