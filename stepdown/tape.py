"""Machines with a tape and a head."""

from stepdown.checks import are_numbers, is_number
from stepdown.errors import BadMachine, BadMark

FEWEST_MARKS = 2
MOST_MARKS = 16
MOST_STATES = 4000


def is_row(value, marks, states):
    """Whether a value is a tuple of a mark, a move and a state."""
    if not isinstance(value, tuple) or len(value) != 3:
        return False
    mark, move, state = value
    if not is_number(move, -1, 1) or move == 0:
        return False
    return is_number(mark, 0, marks - 1) and is_number(state, 0, states - 1)


class Tape:
    """A machine with marks on an endless tape, a head, and states."""

    def __init__(self, marks, states, rows):
        if not is_number(marks, FEWEST_MARKS, MOST_MARKS):
            raise BadMachine("a tape machine has 2 to 16 marks")
        if not is_number(states, 1, MOST_STATES):
            raise BadMachine("a tape machine has 1 to 4000 states")
        if not isinstance(rows, list) or len(rows) != marks * states:
            raise BadMachine("a tape machine has a list with one row for each state and mark")
        for row in rows:
            if row is not None and not is_row(row, marks, states):
                raise BadMachine("a row is None or a tuple of a mark, a move and a state")
        self.marks = marks
        self.states = states
        self._rows = list(rows)

    def row(self, state, mark):
        """The row for a state and a mark."""
        if not is_number(state, 0, self.states - 1):
            raise BadMachine("there is no such state")
        if not is_number(mark, 0, self.marks - 1):
            raise BadMachine("there is no such mark")
        return self._rows[state * self.marks + mark]

    def table(self):
        """A new list of all rows."""
        return list(self._rows)

    def is_configuration(self, value):
        """Whether a value is a configuration of this machine."""
        if not isinstance(value, tuple) or len(value) != 4:
            return False
        state, left, mark, right = value
        if not is_number(state, 0, self.states - 1) or not is_number(mark, 0, self.marks - 1):
            return False
        return self._is_side(left) and self._is_side(right)

    def _is_side(self, value):
        """Whether a value is what a configuration has on one side of the head."""
        if not are_numbers(value, 0, self.marks - 1):
            return False
        return len(value) == 0 or value[-1] != 0

    def begin(self, word):
        """The configuration in state 0 with the head on the first mark of a word."""
        if not are_numbers(word, 0, self.marks - 1):
            raise BadMark("a word is a tuple of marks")
        if len(word) == 0:
            return 0, (), 0, ()
        return 0, (), word[0], trimmed(word[1:])

    def stopped(self, configuration):
        """Whether the machine has stopped in a configuration."""
        state, _, mark, _ = configuration
        return self._rows[state * self.marks + mark] is None

    def step(self, configuration):
        """The configuration after one step, or None."""
        after, taken = self.run(configuration, 1)
        return after if taken == 1 else None

    def run(self, configuration, steps):
        """The configuration after at most so many steps, and their number."""
        state, left, mark, right = configuration
        # With the nearest mark at the end of a list, a step costs the same on every tape.
        left_marks = list(left[::-1])
        right_marks = list(right[::-1])
        taken = 0
        while taken < steps:
            row = self._rows[state * self.marks + mark]
            if row is None:
                break
            written, move, state = row
            behind, ahead = (left_marks, right_marks) if move == 1 else (right_marks, left_marks)
            # A blank with only blanks beyond it is not kept, so no side ends with a blank.
            if behind or written != 0:
                behind.append(written)
            mark = ahead.pop() if ahead else 0
            taken += 1
        return (state, tuple(left_marks[::-1]), mark, tuple(right_marks[::-1])), taken


def trimmed(marks):
    """The tuple of the marks without the blanks at its end."""
    end = len(marks)
    while end > 0 and marks[end - 1] == 0:
        end -= 1
    return tuple(marks[:end])


def tape_of(configuration):
    """The marks from the first to the last place that counts, and the index of the head's place."""
    _, left, mark, right = configuration
    return left[::-1] + (mark,) + right, len(left)


def mirrored(machine):
    """The machine with every move reversed."""
    rows = []
    for row in machine.table():
        if row is not None:
            mark, move, state = row
            row = (mark, -move, state)
        rows.append(row)
    return Tape(machine.marks, machine.states, rows)
