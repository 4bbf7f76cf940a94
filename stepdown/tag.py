"""Machines that append to a row of letters what its first letter says."""

from stepdown.checks import are_numbers, is_number
from stepdown.errors import BadMachine

MOST_LETTERS = 20000
LONGEST_WORD = 6
# So many letters are removed in each step.
REMOVED = 2


class Tag:
    """A machine with a word, or None, for each letter."""

    def __init__(self, letters, words):
        if not is_number(letters, 1, MOST_LETTERS):
            raise BadMachine("a tag machine has 1 to 20000 letters")
        if not isinstance(words, list) or len(words) != letters:
            raise BadMachine("a tag machine has a list with one word for each letter")
        for word in words:
            if word is not None and not (are_numbers(word, 0, letters - 1) and len(word) <= LONGEST_WORD):
                raise BadMachine("a word is None or a tuple of at most 6 letters")
        self.letters = letters
        self._words = list(words)

    def word(self, letter):
        """The word of a letter."""
        if not is_number(letter, 0, self.letters - 1):
            raise BadMachine("there is no such letter")
        return self._words[letter]

    def table(self):
        """A new list of all words."""
        return list(self._words)

    def is_configuration(self, value):
        """Whether a value is a row of this machine."""
        return are_numbers(value, 0, self.letters - 1)

    def stopped(self, configuration):
        """Whether the machine has stopped in a row."""
        return len(configuration) == 0 or self._words[configuration[0]] is None

    def step(self, configuration):
        """The row after one step, or None."""
        if self.stopped(configuration):
            return None
        return (configuration + self._words[configuration[0]])[REMOVED:]

    def run(self, configuration, steps):
        """The row after at most so many steps, and their number."""
        row = list(configuration)
        # Removed letters stay in front for a while, so that a step costs the same on every row.
        removed = 0
        taken = 0
        while taken < steps and removed < len(row):
            word = self._words[row[removed]]
            if word is None:
                break
            row.extend(word)
            removed = min(removed + REMOVED, len(row))
            taken += 1
            if 2 * removed > len(row):
                del row[:removed]
                removed = 0
        return tuple(row[removed:]), taken
