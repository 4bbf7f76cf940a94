"""The stair from a counter machine up to a tape machine."""

from stepdown.errors import BadMachine
from stepdown.tape import Tape

MOST_UPPER_COUNTERS = 3
MOST_UPPER_STATES = 1000
# The state in which the head goes home to the origin, and three to change a counter.
STATES_FOR_EACH = 4


class UpStair:
    """The stair: each counter is a row of bits that begins beside the origin of the tape."""

    def __init__(self, upper):
        if upper.count > MOST_UPPER_COUNTERS:
            raise BadMachine("only a counter machine with at most 3 counters becomes a tape machine")
        if upper.states > MOST_UPPER_STATES:
            raise BadMachine("only a counter machine with at most 1000 states becomes a tape machine")
        self.upper = upper
        # The mark of the origin; those below it are sums of the bits of counters.
        self._origin = 1 << upper.count
        self.lower = Tape(2 * self._origin, STATES_FOR_EACH * upper.states, self._all_rows())

    def _all_rows(self):
        """The rows of the tape machine."""
        rows = []
        for state, row in enumerate(self.upper.table()):
            home = STATES_FOR_EACH * state
            rows += rows_at_home(row, home, self._origin)
            if row is None:
                rows += [None] * (6 * self._origin)
            elif row[0] == "inc":
                rows += rows_of_inc(row, home, self._origin)
            else:
                rows += rows_of_dec(row, home, self._origin)
        return rows

    def down(self, configuration):
        """The configuration of the tape machine that belongs to one of the counter machine."""
        state, counters = configuration
        right = []
        for place in range(1, max(counters) + 1):
            right.append(sum([1 << counter for counter, number in enumerate(counters) if number >= place]))
        return STATES_FOR_EACH * state, (), self._origin, tuple(right)

    def up(self, configuration):
        """The configuration of the counter machine to which one of the tape machine belongs, or None."""
        state, left, mark, right = configuration
        # On the way the head is elsewhere, which is seen at once.
        if left != () or mark != self._origin or not self.lower.is_configuration(configuration):
            return None
        counters = []
        for counter in range(self.upper.count):
            counters.append(sum([(place >> counter) & 1 for place in right]))
        found = state // STATES_FOR_EACH, tuple(counters)
        return found if self.down(found) == configuration else None

    def pace(self, configuration):
        """How many steps of the tape machine one step of the counter machine takes."""
        state, counters = configuration
        row = self.upper.row(state)
        return 0 if row is None else 2 * counters[row[1]] + 2

    def ending(self, configuration):
        """After how many steps the tape machine stops where the counter machine has stopped: at once."""
        return 0


def rows_at_home(row, home, origin):
    """The rows of the state in which the head goes to the origin, and from there does what a row says."""
    rows = [(mark, -1, home) for mark in range(2 * origin)]
    rows[origin] = None if row is None else (origin, 1, home + 1)
    return rows


def rows_of_inc(row, home, origin):
    """The rows of the three states behind home that add 1 to a counter."""
    _, counter, state = row
    bit = 1 << counter
    target = STATES_FOR_EACH * state
    seek = [(mark, 1, home + 1) if mark & bit else (mark + bit, -1, target) for mark in range(origin)]
    return seek + [None] * (5 * origin)


def rows_of_dec(row, home, origin):
    """The rows of the three states behind home that subtract 1 from a counter, if it is not 0."""
    _, counter, if_more, if_none = row
    bit = 1 << counter
    more = STATES_FOR_EACH * if_more
    none = STATES_FOR_EACH * if_none
    others = [None] * origin
    look = [(mark, 1, home + 2) if mark & bit else (mark, -1, none) for mark in range(origin)]
    seek = [(mark, 1, home + 2) if mark & bit else (mark, -1, home + 3) for mark in range(origin)]
    take = [(mark - bit, -1, more) if mark & bit else None for mark in range(origin)]
    return look + others + seek + others + take + others
