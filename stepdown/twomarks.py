"""The stair from a tape machine to one with two marks."""

from stepdown.checks import are_numbers
from stepdown.errors import BadMachine
from stepdown.tape import MOST_STATES, Tape, trimmed


def width(marks):
    """The number of bits in the block of a mark."""
    bits = 1
    while (1 << bits) < marks:
        bits += 1
    return bits


def block(marks, mark):
    """The bits of a mark, the highest first."""
    bits = width(marks)
    return tuple([(mark >> (bits - 1 - at)) & 1 for at in range(bits)])


def mark_of(marks, bits):
    """The mark with this block, or None."""
    if not are_numbers(bits, 0, 1) or len(bits) != width(marks):
        return None
    mark = 0
    for bit in bits:
        mark = 2 * mark + bit
    return mark if mark < marks else None


def pieces(bits, size):
    """The bits cut into pieces of this size, with blanks beyond the end."""
    whole = bits + (0,) * (-len(bits) % size)
    return [whole[at:at + size] for at in range(0, len(whole), size)]


class TwoMarks:
    """The stair: each mark becomes a block of bits."""

    def __init__(self, machine):
        bits = width(machine.marks)
        states = machine.states * (3 * (1 << bits) + 2 * bits - 7)
        if states > MOST_STATES:
            raise BadMachine("the machine with two marks would have too many states")
        self.upper = machine
        self._width = bits
        self.lower = Tape(2, states, self._read_rows() + self._write_rows() + self._go_rows())

    def _read(self, state, size, value):
        """The number of the state that has read a prefix of this size and value."""
        return self.upper.states * ((1 << size) - 1) + (state << size) + value

    def _write(self, state, side, size, value):
        """The number of the state that has still to write a prefix of this size and value."""
        first = self._read(0, self._width, 0) + 2 * self.upper.states * ((1 << size) - 2)
        return first + ((2 * state + side) << size) + value

    def _go(self, state, side, places):
        """The number of the state that has so many places still to go."""
        first = self._write(0, 0, self._width, 0) + 2 * self.upper.states * (places - 1)
        return first + 2 * state + side

    # Each of the next three goes through its states in the order of their numbers.

    def _read_rows(self):
        return [
            self._read_row(state, size, value, bit)
            for size in range(self._width)
            for state in range(self.upper.states)
            for value in range(1 << size)
            for bit in (0, 1)
        ]

    def _write_rows(self):
        return [
            self._write_row(state, side, size, value)
            for size in range(1, self._width)
            for state in range(self.upper.states)
            for side in (0, 1)
            for value in range(1 << size)
            for _ in (0, 1)
        ]

    def _go_rows(self):
        return [
            self._go_row(state, side, places, bit)
            for places in range(1, self._width)
            for state in range(self.upper.states)
            for side in (0, 1)
            for bit in (0, 1)
        ]

    def _read_row(self, state, size, value, bit):
        """The row for a bit behind a prefix that has been read."""
        value = 2 * value + bit
        if size < self._width - 1:
            return bit, 1, self._read(state, size + 1, value)
        row = self.upper.row(state, value) if value < self.upper.marks else None
        if row is None:
            return None
        mark, move, target = row
        if self._width == 1:
            return mark, move, target
        side = 1 if move == 1 else 0
        return mark & 1, -1, self._write(target, side, self._width - 1, mark >> 1)

    def _write_row(self, state, side, size, value):
        """The row, for both bits, with a prefix still to be written."""
        if size > 1:
            return value & 1, -1, self._write(state, side, size - 1, value >> 1)
        return value, 2 * side - 1, self._go(state, side, self._width - 1)

    def _go_row(self, state, side, places, bit):
        """The row for a bit with so many places still to go."""
        if places > 1:
            return bit, 2 * side - 1, self._go(state, side, places - 1)
        return bit, 2 * side - 1, state

    def down(self, configuration):
        """The lower configuration that belongs to an upper one."""
        state, left, mark, right = configuration
        marks = self.upper.marks
        here = block(marks, mark)
        behind = [bit for place in left for bit in block(marks, place)[::-1]]
        ahead = [bit for place in right for bit in block(marks, place)]
        return state, trimmed(behind), here[0], trimmed(here[1:] + tuple(ahead))

    def up(self, configuration):
        """The upper configuration to which a lower one belongs, or None."""
        state, left, bit, right = configuration
        marks = self.upper.marks
        behind = [mark_of(marks, piece[::-1]) for piece in pieces(left, self._width)]
        ahead = [mark_of(marks, piece) for piece in pieces((bit,) + right, self._width)]
        if state >= self.upper.states or None in behind or None in ahead:
            return None
        return state, trimmed(behind), ahead[0], trimmed(ahead[1:])

    def pace(self, configuration):
        """How many lower steps the upper step takes."""
        return 0 if self.upper.stopped(configuration) else 3 * self._width - 2

    def ending(self, configuration):
        """After how many lower steps the lower machine stops where the upper one has stopped."""
        return self._width - 1 if self.upper.stopped(configuration) else 0
