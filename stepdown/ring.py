"""Machines that take a list of words round and round."""

from stepdown.checks import are_numbers, is_number
from stepdown.errors import BadMachine

MOST_WORDS = 40000


class Ring:
    """A machine on a row of bits: each 1 in front appends the word whose turn it is."""

    def __init__(self, words):
        if not isinstance(words, list) or not is_number(len(words), 1, MOST_WORDS):
            raise BadMachine("a ring has a list of 1 to 40000 words")
        for word in words:
            if word is not None and not are_numbers(word, 0, 1):
                raise BadMachine("a word is None or a tuple of bits")
        self.size = len(words)
        self._words = list(words)

    def table(self):
        """A new list of all words."""
        return list(self._words)

    def is_configuration(self, value):
        """Whether a value is a configuration of this ring."""
        if not isinstance(value, tuple) or len(value) != 2:
            return False
        bits, at = value
        if not are_numbers(bits, 0, 1) or not is_number(at, 0, self.size - 1):
            return False
        return at == 0 or len(bits) > 0

    def stopped(self, configuration):
        """Whether the ring has stopped in a configuration."""
        bits, at = configuration
        return len(bits) == 0 or (bits[0] == 1 and self._words[at] is None)

    def step(self, configuration):
        """The configuration after one step, or None."""
        if self.stopped(configuration):
            return None
        bits, at = configuration
        after = bits[1:]
        if bits[0] == 1:
            after += self._words[at]
        return after, self._place(after, at + 1)

    def _place(self, bits, at):
        """The number of the word whose turn it is, for the bits that are there."""
        return at % self.size if bits else 0

    def run(self, configuration, steps):
        """The configuration after at most so many steps, and their number."""
        bits, at = configuration
        row = list(bits)
        # Removed bits stay in front for a while, so that a step costs the same on every row.
        removed = 0
        taken = 0
        while taken < steps and removed < len(row):
            if row[removed] == 1:
                word = self._words[(at + taken) % self.size]
                if word is None:
                    break
                row.extend(word)
            removed += 1
            taken += 1
            if 2 * removed > len(row):
                del row[:removed]
                removed = 0
        after = tuple(row[removed:])
        return (after, self._place(after, at + taken)), taken
