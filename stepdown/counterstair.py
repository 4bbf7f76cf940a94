"""The stair from a stack machine to a machine with three counters."""

from stepdown.counters import Counters, stack_of, value

COUNTERS = 3
# The counter that is empty whenever a configuration of the stack machine is meant.
SPARE = 2
STATES_FOR_EACH = 7


class CounterStair:
    """The stair: each stack becomes the number that its bits are."""

    def __init__(self, upper):
        self.upper = upper
        self.lower = Counters(COUNTERS, self._all_rows())

    def _all_rows(self):
        """The rows of the counter machine."""
        rows = []
        for state, row in enumerate(self.upper.table()):
            start = STATES_FOR_EACH * state
            if row is None:
                rows += [None] * STATES_FOR_EACH
            elif row[0] == "push":
                rows += rows_of_push(row, start)
            else:
                rows += rows_of_pop(row, start)
        return rows

    def down(self, configuration):
        """The configuration of the counter machine that belongs to one of the stack machine."""
        state, first, second = configuration
        return STATES_FOR_EACH * state, (value(first), value(second), 0)

    def up(self, configuration):
        """The configuration of the stack machine to which one of the counter machine belongs, or None."""
        state, (first, second, spare) = configuration
        if state % STATES_FOR_EACH != 0 or spare != 0:
            return None
        return state // STATES_FOR_EACH, stack_of(first), stack_of(second)

    def pace(self, configuration):
        """How many steps of the counter machine one step of the stack machine takes."""
        row = self.upper.row(configuration[0])
        if row is None:
            return 0
        number = value(configuration[1 + row[1]])
        if row[0] == "push":
            return 7 * number + 2 + row[2]
        return 5 * (number // 2) + 2 + number % 2

    def ending(self, configuration):
        """After how many steps the counter machine stops where the stack machine has stopped: at once."""
        return 0


def rows_of_push(row, start):
    """The rows, for the states from start on, that double a number and add a bit to it."""
    _, counter, bit, state = row
    target = STATES_FOR_EACH * state
    return [
        ("dec", counter, start + 1, start + 3),
        ("inc", SPARE, start + 2),
        ("inc", SPARE, start),
        ("dec", SPARE, start + 4, start + 5 if bit == 1 else target),
        ("inc", counter, start + 3),
        ("inc", counter, target),
        None,
    ]


def rows_of_pop(row, start):
    """The rows, for the states from start on, that halve a number and go on by the bit that is left over."""
    _, counter, if_even, if_odd = row
    return [
        ("dec", counter, start + 1, start + 3),
        ("dec", counter, start + 2, start + 5),
        ("inc", SPARE, start),
        ("dec", SPARE, start + 4, STATES_FOR_EACH * if_even),
        ("inc", counter, start + 3),
        ("dec", SPARE, start + 6, STATES_FOR_EACH * if_odd),
        ("inc", counter, start + 5),
    ]
