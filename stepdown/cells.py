"""Lines of cells that all change at once."""

from stepdown.checks import are_numbers, is_line, is_number
from stepdown.errors import BadCells
from stepdown.running import run_by_steps
from stepdown.tape import trimmed

MOST_LETTERS = 300
MOST_TOGETHER = 40


class Cells:
    """A line of cells; the new letter of each depends on it and its two neighbours."""

    def __init__(self, letters, changes):
        if not is_number(letters, 1, MOST_LETTERS):
            raise BadCells("a line of cells has 1 to 300 letters")
        if not isinstance(changes, dict):
            raise BadCells("the changes are a dict")
        for triple, letter in changes.items():
            if not are_numbers(triple, 0, letters - 1) or len(triple) != 3:
                raise BadCells("a key is a triple of letters")
            if not is_number(letter, 0, letters - 1):
                raise BadCells("a value is a letter")
        if changes.get((0, 0, 0), 0) != 0:
            raise BadCells("a cell with three zeros keeps its zero")
        self.letters = letters
        self._changes = {triple: changes[triple] for triple in changes}

    def change(self, left, middle, right):
        """The new letter of a cell with this letter and these neighbours."""
        return self._changes.get((left, middle, right), middle)

    def changes(self):
        """A new dict of the changes that were passed."""
        return {triple: self._changes[triple] for triple in self._changes}

    def is_configuration(self, value):
        """Whether a value is a configuration of this machine."""
        return is_line(value, self.letters - 1)

    def _changed(self, row):
        """The letters after one step of the cells of a row, with zeros beyond both ends."""
        wide = (0,) + row + (0,)
        return tuple([self._changes.get(triple, triple[1]) for triple in zip(wide, row, wide[2:])])

    def stopped(self, configuration):
        """Whether the machine has stopped in a configuration."""
        return self.step(configuration) is None

    def step(self, configuration):
        """The configuration after one step, or None."""
        # Cells next to the ends may get a letter; those farther away have three zeros.
        row = (0,) + configuration + (0,)
        after = self._changed(row)
        if after == row:
            return None
        return unpadded(after)

    def run(self, configuration, steps):
        """The configuration after at most so many steps, and their number."""
        return run_by_steps(self, configuration, steps)

    def rows(self, configuration, steps):
        """The rows of a run, all of the cells that it can reach."""
        row = (0,) * steps + configuration + (0,) * steps
        found = [row]
        for _ in range(steps):
            after = self._changed(row)
            if after == row:
                break
            row = after
            found.append(row)
        return found


def unpadded(row):
    """A row without the zeros at both ends."""
    return trimmed(trimmed(row)[::-1])[::-1]


def mirrored_cells(machine):
    """The machine with left and right exchanged."""
    changes = machine.changes()
    return Cells(machine.letters, {triple[::-1]: changes[triple] for triple in changes})


def together(first, second):
    """The machine whose lines are a line of each of two machines."""
    letters = first.letters * second.letters
    if letters > MOST_TOGETHER:
        raise BadCells("two machines together have at most 40 letters")
    changes = {}
    for left in range(letters):
        for middle in range(letters):
            for right in range(letters):
                letter = changed_both(first, second, left, middle, right)
                if letter != middle:
                    changes[left, middle, right] = letter
    return Cells(letters, changes)


def changed_both(first, second, left, middle, right):
    """The new letter of a cell of two machines together."""
    count = second.letters
    above = first.change(left // count, middle // count, right // count)
    below = second.change(left % count, middle % count, right % count)
    return above * count + below
