"""The stair from a tape machine with two marks to a tag machine."""

from stepdown.checks import is_whole
from stepdown.counters import stack_of, value
from stepdown.errors import BadMachine
from stepdown.tag import Tag

MARKS = 2
MOST_UPPER_STATES = 400

# The names of the letters that each pair of a state and a mark has, in the order of their numbers.
NAMES = "AaBbxCcSsDdTtUuVvEeGg"
LETTERS_FOR_EACH = 21

# The words of the letters of a pair p that goes on: whose letters they have, where q0 and q1 are the new
# state with the mark 0 and 1, and the word for a move to the right and for one to the left. Where the mark 1
# is written, "Cx" is followed by "cx".
WORDS = (
    ("A", "p", "Cx", "Ex"),
    ("a", "p", "cxcx", "ex"),
    ("B", "p", "S", "Cx"),
    ("b", "p", "s", "cxcx"),
    ("E", "p", None, "S"),
    ("e", "p", None, "s"),
    ("C", "p", "DU", "DU"),
    ("c", "p", "du", "du"),
    ("S", "p", "TV", "TV"),
    ("s", "p", "tv", "tv"),
    ("D", "q1", "Ax", "Gx"),
    ("d", "q1", "ax", "gx"),
    ("T", "q1", "Bx", "Ax"),
    ("t", "q1", "bx", "ax"),
    ("U", "q0", "xAx", "xGx"),
    ("u", "q0", "ax", "gx"),
    ("V", "q0", "Bx", "Ax"),
    ("v", "q0", "bx", "ax"),
)


class TagStair:
    """The stair: the marks on each side of the head are a number, and a number is so many equal letters."""

    def __init__(self, machine):
        if machine.marks > MARKS:
            raise BadMachine("only a tape machine with two marks becomes a tag machine")
        if machine.states > MOST_UPPER_STATES:
            raise BadMachine("only a tape machine with at most 400 states becomes a tag machine")
        self.upper = machine
        words = []
        # In the order of the table, the pairs have the numbers from 0 on.
        for pair, row in enumerate(machine.table()):
            words += words_of(pair, row)
        self.lower = Tag(len(words), words)

    def down(self, configuration):
        """The row of letters that belongs to a configuration of the tape machine."""
        state, left, mark, right = configuration
        return row_of(MARKS * state + mark, number_of(left), number_of(right))

    def up(self, configuration):
        """The configuration of the tape machine to which a row of letters belongs, or None."""
        if not isinstance(configuration, tuple) or len(configuration) == 0 or not is_whole(configuration[0]):
            return None
        pair, name = divmod(configuration[0], LETTERS_FOR_EACH)
        # Most rows on the way begin with another letter, which is seen at once.
        if NAMES[name] != "A" or not self.lower.is_configuration(configuration):
            return None
        letters = configuration[::2]
        turn = letter_of("B", pair)
        if turn not in letters:
            return None
        left = letters.index(turn) - 1
        right = len(letters) - left - 2
        if row_of(pair, left, right) != configuration:
            return None
        return pair // MARKS, marks_of(left), pair % MARKS, marks_of(right)

    def pace(self, configuration):
        """How many steps of the tag machine one step of the tape machine takes."""
        state, left, mark, right = configuration
        row = self.upper.row(state, mark)
        if row is None:
            return 0
        written, move, _ = row
        behind = number_of(left)
        ahead = number_of(right)
        if move == 1:
            return behind + ahead + 2 * (2 * behind + written) + 2 * (ahead // 2) + 6
        return 2 * behind + ahead + 3 * (2 * ahead + written) + 2 * (behind // 2) + 8

    def ending(self, configuration):
        """After how many steps the tag machine stops where the tape machine has stopped: at once."""
        return 0


def number_of(marks):
    """The number whose binary digits are these marks, the nearest mark being the lowest digit."""
    return value(marks)


def marks_of(number):
    """The marks that are the binary digits of a number, without blanks at the end."""
    return stack_of(number)


def letter_of(name, pair):
    """The letter of a pair with this name."""
    return LETTERS_FOR_EACH * pair + NAMES.index(name)


def letters_of(names, pair):
    """The letters of a pair with these names."""
    return tuple([letter_of(name, pair) for name in names])


def row_of(pair, left, right):
    """The row for a pair and the numbers to the left and right of the head."""
    first = letters_of("Ax", pair) + letters_of("ax", pair) * left
    return first + letters_of("Bx", pair) + letters_of("bx", pair) * right


def words_of(pair, row):
    """The words of all letters of a pair with this row of the tape machine, in their order."""
    words = {"G": letters_of("Bx", pair), "g": letters_of("bx", pair)}
    if row is not None:
        mark, move, state = row
        pairs = {"p": pair, "q0": MARKS * state, "q1": MARKS * state + 1}
        for name, whose, if_right, if_left in WORDS:
            word = if_right if move == 1 else if_left
            if word == "Cx":
                word += "cx" * mark
            if word is not None:
                words[name] = letters_of(word, pairs[whose])
    return [words.get(name) for name in NAMES]
