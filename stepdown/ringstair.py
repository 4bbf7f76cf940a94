"""The stair from a tag machine to a ring."""

from stepdown.ring import Ring


class RingStair:
    """The stair: each letter becomes as many bits as there are letters, one of which is 1."""

    def __init__(self, machine):
        self.upper = machine
        words = [None if word is None else codes(machine, word) for word in machine.table()]
        # While the code of the second letter is removed, nothing is appended.
        self.lower = Ring(words + [()] * machine.letters)

    def down(self, configuration):
        """The configuration of the ring that belongs to a row of letters."""
        return codes(self.upper, configuration), 0

    def up(self, configuration):
        """The row of letters to which a configuration of the ring belongs, or None."""
        if not isinstance(configuration, tuple) or len(configuration) != 2:
            return None
        # Most configurations on the way have another number, which is seen at once.
        if configuration[1] != 0 or not self.lower.is_configuration(configuration):
            return None
        bits, _ = configuration
        size = self.upper.letters
        pieces = [bits[at:at + size] for at in range(0, len(bits), size)]
        if len(bits) % size != 0 or any([piece.count(1) != 1 for piece in pieces]):
            return None
        return tuple([piece.index(1) for piece in pieces])

    def pace(self, configuration):
        """How many steps of the ring one step of the tag machine takes."""
        if self.upper.stopped(configuration):
            return 0
        size = self.upper.letters
        # Where no second letter is left, no second code is removed.
        alone = len(configuration) == 1 and self.upper.word(configuration[0]) == ()
        return size if alone else 2 * size

    def ending(self, configuration):
        """After how many steps the ring stops where the tag machine has stopped."""
        if len(configuration) == 0 or not self.upper.stopped(configuration):
            return 0
        return configuration[0]


def code(machine, letter):
    """The bits of a letter of a tag machine."""
    return (0,) * letter + (1,) + (0,) * (machine.letters - letter - 1)


def codes(machine, row):
    """The bits of the letters of a row, one after the other."""
    bits = []
    for letter in row:
        bits.extend(code(machine, letter))
    return tuple(bits)
