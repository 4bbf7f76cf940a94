"""Machines that count up and down."""

from stepdown.checks import is_number
from stepdown.errors import BadMachine

MOST_COUNTERS = 4
MOST_STATES = 40000


def is_counter_row(row, count, states):
    """Whether a value is None or a tuple that tells to add or to subtract 1."""
    if row is None:
        return True
    if not isinstance(row, tuple) or len(row) not in (3, 4):
        return False
    word = "inc" if len(row) == 3 else "dec"
    if row[0] != word or not is_number(row[1], 0, count - 1):
        return False
    return all([is_number(state, 0, states - 1) for state in row[2:]])


class Counters:
    """A machine with states and counters."""

    def __init__(self, count, rows):
        if not is_number(count, 1, MOST_COUNTERS):
            raise BadMachine("a counter machine has 1 to 4 counters")
        if not isinstance(rows, list) or not is_number(len(rows), 1, MOST_STATES):
            raise BadMachine("a counter machine has a list of 1 to 40000 rows")
        for row in rows:
            if not is_counter_row(row, count, len(rows)):
                raise BadMachine("a row is None or a tuple that tells to add or to subtract 1")
        self.count = count
        self.states = len(rows)
        self._rows = list(rows)

    def row(self, state):
        """The row for a state."""
        if not is_number(state, 0, self.states - 1):
            raise BadMachine("there is no such state")
        return self._rows[state]

    def table(self):
        """A new list of all rows."""
        return list(self._rows)

    def stopped(self, configuration):
        """Whether the machine has stopped in a configuration."""
        return self._rows[configuration[0]] is None

    def step(self, configuration):
        """The configuration after one step, or None."""
        after, taken = self.run(configuration, 1)
        return after if taken == 1 else None

    def run(self, configuration, steps):
        """The configuration after at most so many steps, and their number."""
        state, held = configuration
        counters = list(held)
        taken = 0
        while taken < steps:
            row = self._rows[state]
            if row is None:
                break
            counter = row[1]
            state = row[2]
            if row[0] == "inc":
                counters[counter] += 1
            elif counters[counter] > 0:
                counters[counter] -= 1
            else:
                state = row[3]
            taken += 1
        return (state, tuple(counters)), taken


def value(stack):
    """The number of a stack of bits, the topmost bit being the lowest digit."""
    number = 0
    for bit in stack[::-1]:
        number = 2 * number + bit
    return number


def stack_of(number):
    """The stack of a number."""
    return tuple([(number >> at) & 1 for at in range(number.bit_length())])
