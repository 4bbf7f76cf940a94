"""The stair from a tape machine with two marks to a stack machine."""

from stepdown.errors import BadMachine
from stepdown.stacks import Stacks
from stepdown.tape import trimmed

MARKS = 2
MOST_UPPER_STATES = 500
# The state in which the mark under the head is popped, and four for each mark.
STATES_FOR_EACH = 9


class StackStair:
    """The stair: one stack lies to the left of the head, the other one under it and to its right."""

    def __init__(self, upper):
        if upper.marks != MARKS:
            raise BadMachine("only a tape machine with two marks becomes a stack machine")
        if upper.states > MOST_UPPER_STATES:
            raise BadMachine("only a tape machine with at most 500 states becomes a stack machine")
        self.upper = upper
        self.lower = Stacks(self._all_rows())

    def _all_rows(self):
        """The rows of the stack machine."""
        rows = []
        for state in range(self.upper.states):
            start = STATES_FOR_EACH * state
            rows.append(("pop", 1, start + 1, start + 5))
            rows += rows_after_mark(self.upper.row(state, 0), start + 1)
            rows += rows_after_mark(self.upper.row(state, 1), start + 5)
        return rows

    def down(self, configuration):
        """The configuration of the stack machine that belongs to one of the tape machine."""
        state, left, mark, right = configuration
        return STATES_FOR_EACH * state, left, trimmed((mark,) + right)

    def up(self, configuration):
        """The configuration of the tape machine to which one of the stack machine belongs, or None."""
        state, left, second = configuration
        if state % STATES_FOR_EACH != 0:
            return None
        mark = second[0] if second else 0
        return state // STATES_FOR_EACH, left, mark, second[1:]

    def pace(self, configuration):
        """How many steps of the stack machine one step of the tape machine takes."""
        state, _, mark, _ = configuration
        row = self.upper.row(state, mark)
        if row is None:
            return 0
        return 2 if row[1] == 1 else 4

    def ending(self, configuration):
        """After how many steps the stack machine stops where the tape machine has stopped."""
        return 1 if self.upper.stopped(configuration) else 0


def rows_after_mark(row, start):
    """The four rows, for the states from start on, that do what a row of the tape machine says."""
    if row is None:
        return [None, None, None, None]
    written, move, state = row
    target = STATES_FOR_EACH * state
    if move == 1:
        return [("push", 0, written, target), None, None, None]
    # The mark to the left comes under the head, so it goes from one stack to the other.
    return [
        ("push", 1, written, start + 1),
        ("pop", 0, start + 2, start + 3),
        ("push", 1, 0, target),
        ("push", 1, 1, target),
    ]
