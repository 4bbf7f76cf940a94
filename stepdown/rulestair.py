"""The stair from a tape machine to rules on strings."""

from stepdown.errors import BadMachine
from stepdown.rules import MOST_RULES, Rules

MOST_MARKS = 10
BEGIN = "["
END = "]"
BLANK = "0"


class RuleStair:
    """The stair: the tape is written as a string, with the state before the mark under the head."""

    def __init__(self, machine):
        if machine.marks > MOST_MARKS:
            raise BadMachine("only a tape machine with at most 10 marks becomes a rule machine")
        # Each row that goes on has a rule for each left and each right neighbour.
        going = [row for row in machine.table() if row is not None]
        if len(going) * (machine.marks + 1) * (machine.marks + 1) > MOST_RULES:
            raise BadMachine("the rule machine would have too many rules")
        self.upper = machine
        self._marks = {str(mark): mark for mark in range(machine.marks)}
        self._states = {str(state): state for state in range(machine.states)}
        self.lower = Rules(self._all_rules())

    def _all_rules(self):
        """The rules for all rows of the tape machine."""
        digits = list(self._marks)
        rules = []
        for state in range(self.upper.states):
            for mark in range(self.upper.marks):
                row = self.upper.row(state, mark)
                if row is not None:
                    for left in [BEGIN] + digits:
                        for right in digits + [END]:
                            old = left + sign(state) + str(mark) + right
                            rules.append((old, new_string(row, left, right)))
        return rules

    def down(self, configuration):
        """The string that belongs to a configuration of the tape machine."""
        state, left, mark, right = configuration
        return BEGIN + written(left[::-1]) + sign(state) + written((mark,) + right) + END

    def up(self, configuration):
        """The configuration of the tape machine to which a string belongs, or None."""
        before, _, rest = configuration.partition("(")
        number, _, after = rest.partition(")")
        if not before.startswith(BEGIN) or number not in self._states or not after.endswith(END):
            return None
        digits = before[1:] + after[:-1]
        if len(after) < 2 or any([digit not in self._marks for digit in digits]):
            return None
        left = [self._marks[digit] for digit in before[:0:-1]]
        mark, *right = [self._marks[digit] for digit in after[:-1]]
        found = self._states[number], tuple(left), mark, tuple(right)
        # With blanks at its ends a string belongs to none.
        return found if self.upper.is_configuration(found) else None

    def pace(self, configuration):
        """How many steps of the rule machine one step of the tape machine takes."""
        return 0 if self.upper.stopped(configuration) else 1

    def ending(self, configuration):
        """After how many steps the rule machine stops where the tape machine has stopped: at once."""
        return 0


def sign(state):
    """How a state is written."""
    return f"({state})"


def written(marks):
    """The digits of marks."""
    return "".join([str(mark) for mark in marks])


def new_string(row, left, right):
    """What takes the place of the head's surroundings, for the neighbours to the left and right."""
    mark, move, state = row
    if move == 1:
        # A blank with only blanks beyond it is not written.
        digit = "" if left == BEGIN and mark == 0 else str(mark)
        return left + digit + sign(state) + (BLANK + END if right == END else right)
    digit = "" if right == END and mark == 0 else str(mark)
    begin = BEGIN + sign(state) + BLANK if left == BEGIN else sign(state) + left
    return begin + digit + right
