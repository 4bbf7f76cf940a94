"""The stair from a counter machine to a list of fractions."""

from stepdown.digits import digits_of
from stepdown.errors import BadMachine
from stepdown.primes import parted, primes, product
from stepdown.ratios import Ratios

MOST_UPPER_STATES = 1000
PACE = 2


class RatioStair:
    """The stair: the counters are the exponents of primes, and each state has two primes of its own."""

    def __init__(self, upper):
        if upper.states > MOST_UPPER_STATES:
            raise BadMachine("only a counter machine with at most 1000 states becomes a ratio machine")
        self.upper = upper
        basis = primes(upper.count + 2 * upper.states)
        self._of_counters = basis[:upper.count]
        # The primes of a configuration in each state, and of the way there.
        self._there = basis[upper.count::2]
        self._coming = basis[upper.count + 1::2]
        self._states = {prime: state for state, prime in enumerate(self._there)}
        self.lower = Ratios(self._all_fractions())

    def _all_fractions(self):
        """The fractions for all rows of the counter machine."""
        fractions = []
        for state, row in enumerate(self.upper.table()):
            there = self._there[state]
            if row is not None:
                counter = self._of_counters[row[1]]
                target = self._coming[row[2]]
                if row[0] == "inc":
                    fractions.append((counter * target, there))
                else:
                    fractions.append((target, there * counter))
                    fractions.append((self._coming[row[3]], there))
            fractions.append((there, self._coming[state]))
        return fractions

    def down(self, configuration):
        """The configuration of the ratio machine that belongs to one of the counter machine."""
        state, counters = configuration
        return (self._there[state] * product(self._of_counters, counters),)

    def up(self, configuration):
        """The configuration of the counter machine to which one of the ratio machine belongs, or None."""
        counters, rest = parted(configuration[0], self._of_counters)
        if rest not in self._states:
            return None
        return self._states[rest], counters

    def pace(self, configuration):
        """How many steps of the ratio machine one step of the counter machine takes."""
        return 0 if self.upper.stopped(configuration) else PACE

    def ending(self, configuration):
        """After how many steps the ratio machine stops where the counter machine has stopped: at once."""
        return 0

    def size(self, counters, state):
        """The number of decimal digits of the number that belongs to a state and counters."""
        return digits_of(self._of_counters + [self._there[state]], counters + (1,))
