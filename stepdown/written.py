"""Tape machines as texts."""

from stepdown.errors import BadText
from stepdown.tape import FEWEST_MARKS, MOST_MARKS, MOST_STATES, Tape

MOVES = {"left": -1, "right": 1}
MOVE_WORDS = {-1: "left", 1: "right"}


def first_line(marks, states):
    """The first line of a machine's text."""
    return f"tape {marks} {states}"


def row_line(state, mark, row):
    """The line of a row."""
    if row is None:
        return f"{state} {mark} stop"
    written, move, target = row
    return f"{state} {mark} > {written} {MOVE_WORDS[move]} {target}"


def text_of(machine):
    """The text of a machine."""
    lines = [first_line(machine.marks, machine.states)]
    for state in range(machine.states):
        for mark in range(machine.marks):
            lines.append(row_line(state, mark, machine.row(state, mark)))
    return "\n".join(lines) + "\n"


def by_digits(low, high):
    """The numbers from low to high by the only way in which a text writes each."""
    return {str(number): number for number in range(low, high + 1)}


def sizes_in(line):
    """The numbers of marks and states in a first line, or None if it is none."""
    items = line.split(" ")
    if len(items) != 3:
        return None
    marks = by_digits(FEWEST_MARKS, MOST_MARKS).get(items[1])
    states = by_digits(1, MOST_STATES).get(items[2])
    if marks is None or states is None or line != first_line(marks, states):
        return None
    return marks, states


def row_in(line, marks, states):
    """The row that a line tells behind its `>`, or None if it tells none."""
    items = line.split(" ")
    if len(items) != 6:
        return None
    written = marks.get(items[3])
    move = MOVES.get(items[4])
    target = states.get(items[5])
    if written is None or move is None or target is None:
        return None
    return written, move, target


def machine_of(text):
    """The machine with this text."""
    lines = text.split("\n")
    # What stands behind the last newline is a line without its newline, so it must be empty.
    rest = lines.pop()
    sizes = sizes_in(lines[0]) if lines else None
    if sizes is None:
        raise BadText(1)
    marks, states = sizes
    mark_digits = by_digits(0, marks - 1)
    state_digits = by_digits(0, states - 1)
    rows = []
    for at, line in enumerate(lines[1:]):
        if at == marks * states:
            raise BadText(at + 2)
        row = row_in(line, mark_digits, state_digits)
        # Writing the row again finds whatever else is wrong with the line.
        if line != row_line(at // marks, at % marks, row):
            raise BadText(at + 2)
        rows.append(row)
    if rest != "" or len(rows) < marks * states:
        raise BadText(len(rows) + 2)
    return Tape(marks, states, rows)
