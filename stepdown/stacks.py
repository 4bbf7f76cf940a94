"""Machines with two stacks of bits."""

from stepdown.checks import is_number
from stepdown.errors import BadMachine

MOST_STATES = 5000


def is_stack_row(row, states):
    """Whether a value is None or a tuple that tells to push or to pop."""
    if row is None:
        return True
    if not isinstance(row, tuple) or len(row) != 4:
        return False
    word, stack, third, state = row
    if not is_number(stack, 0, 1) or not is_number(state, 0, states - 1):
        return False
    if word == "push":
        return is_number(third, 0, 1)
    return word == "pop" and is_number(third, 0, states - 1)


class Stacks:
    """A machine with states that pushes bits on two stacks and pops them."""

    def __init__(self, rows):
        if not isinstance(rows, list) or not is_number(len(rows), 1, MOST_STATES):
            raise BadMachine("a stack machine has a list of 1 to 5000 rows")
        for row in rows:
            if not is_stack_row(row, len(rows)):
                raise BadMachine("a row is None or a tuple that tells to push or to pop")
        self.states = len(rows)
        self._rows = list(rows)

    def row(self, state):
        """The row for a state."""
        if not is_number(state, 0, self.states - 1):
            raise BadMachine("there is no such state")
        return self._rows[state]

    def table(self):
        """A new list of all rows."""
        return list(self._rows)

    def stopped(self, configuration):
        """Whether the machine has stopped in a configuration."""
        return self._rows[configuration[0]] is None

    def step(self, configuration):
        """The configuration after one step, or None."""
        after, taken = self.run(configuration, 1)
        return after if taken == 1 else None

    def run(self, configuration, steps):
        """The configuration after at most so many steps, and their number."""
        state, first, second = configuration
        # With the topmost bit at the end of a list, a step costs the same on every stack.
        stacks = [list(first[::-1]), list(second[::-1])]
        taken = 0
        while taken < steps:
            row = self._rows[state]
            if row is None:
                break
            word, stack, third, state = row
            bits = stacks[stack]
            if word == "pop":
                bit = bits.pop() if bits else 0
                state = state if bit == 1 else third
            elif bits or third == 1:
                # A 0 on the empty stack is not kept, so no stack ends with a 0.
                bits.append(third)
            taken += 1
        return (state, tuple(stacks[0][::-1]), tuple(stacks[1][::-1])), taken
