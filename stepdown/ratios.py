"""Machines that are lists of fractions."""

from math import gcd

from stepdown.checks import is_whole
from stepdown.errors import BadMachine
from stepdown.running import run_by_steps

MOST_FRACTIONS = 5000


def is_fraction(value):
    """Whether a value is a tuple of two integers from 1 on."""
    if not isinstance(value, tuple) or len(value) != 2:
        return False
    return all([is_whole(number) and number > 0 for number in value])


class Ratios:
    """A machine that multiplies by the first fraction that gives an integer."""

    def __init__(self, fractions):
        if not isinstance(fractions, list) or len(fractions) > MOST_FRACTIONS:
            raise BadMachine("a ratio machine has a list of at most 5000 fractions")
        for fraction in fractions:
            if not is_fraction(fraction):
                raise BadMachine("a fraction is a tuple of two integers from 1 on")
        self._fractions = list(fractions)
        # A number times a fraction is an integer if the denominator in lowest terms divides it.
        self._divisors = [below // gcd(above, below) for above, below in fractions]

    def table(self):
        """A new list of the fractions."""
        return list(self._fractions)

    def used(self, configuration):
        """The index of the fraction that a step takes, or -1."""
        number = configuration[0]
        for at, divisor in enumerate(self._divisors):
            if number % divisor == 0:
                return at
        return -1

    def stopped(self, configuration):
        """Whether the machine has stopped in a configuration."""
        return self.used(configuration) == -1

    def step(self, configuration):
        """The configuration after one step, or None."""
        at = self.used(configuration)
        if at == -1:
            return None
        above, below = self._fractions[at]
        return (configuration[0] * above // below,)

    def run(self, configuration, steps):
        """The configuration after at most so many steps, and their number."""
        return run_by_steps(self, configuration, steps)


def reduced(machine):
    """The machine with the same fractions in lowest terms."""
    fractions = []
    for above, below in machine.table():
        common = gcd(above, below)
        fractions.append((above // common, below // common))
    return Ratios(fractions)
