"""The stair from a tape machine to a line of cells."""

from stepdown.cells import MOST_LETTERS, Cells
from stepdown.errors import BadCells
from stepdown.tape import trimmed


class CellStair:
    """The stair: each place of the tape is a cell, and the head is part of its letter."""

    def __init__(self, machine):
        letters = machine.marks * (machine.states + 1)
        if letters > MOST_LETTERS:
            raise BadCells("the line of cells would have too many letters")
        self.upper = machine
        self.lower = Cells(letters, self._all_changes())

    def _all_changes(self):
        """The changes for all rows of the machine."""
        changes = {}
        for state in range(self.upper.states):
            for mark in range(self.upper.marks):
                row = self.upper.row(state, mark)
                if row is not None:
                    self._add_changes(changes, self.letter(mark, state), row)
        return changes

    def _add_changes(self, changes, head, row):
        """Adds the changes for a row and the letter of the place with the head."""
        written, move, target = row
        marks = range(self.upper.marks)
        for near in marks:
            arrived = self.letter(near, target)
            for far in marks:
                changes[near, head, far] = written
                if move == 1:
                    changes[head, near, far] = arrived
                else:
                    changes[far, near, head] = arrived

    def letter(self, mark, state):
        """The letter of a place with this mark, and with the head in this state if it is not None."""
        return letter_of(self.upper.marks, mark, state)

    def down(self, configuration):
        """The line that belongs to a configuration of the tape machine."""
        return line_of(self.upper.marks, configuration)

    def up(self, line):
        """The configuration of the tape machine that a line means, or None."""
        return meaning_of(self.upper.marks, line)

    def pace(self, configuration):
        """How many steps of the line one step of the tape machine takes."""
        return 0 if self.upper.stopped(configuration) else 1

    def ending(self, configuration):
        """After how many steps the line stops where the tape machine has stopped: at once."""
        return 0


def letter_of(marks, mark, state):
    """The letter of a place of a tape with so many marks; the state is None if the head is elsewhere."""
    if state is None:
        return mark
    return marks * (state + 1) + mark


def line_of(marks, configuration):
    """The line of the letters of a tape's places."""
    state, left, mark, right = configuration
    return left[::-1] + (letter_of(marks, mark, state),) + right


def meaning_of(marks, line):
    """The configuration that a line of letters means, or None; there may be zeros at its ends."""
    heads = [at for at, letter in enumerate(line) if letter >= marks]
    if len(heads) != 1:
        return None
    at = heads[0]
    state = line[at] // marks - 1
    return state, trimmed(line[:at][::-1]), line[at] % marks, trimmed(line[at + 1:])
